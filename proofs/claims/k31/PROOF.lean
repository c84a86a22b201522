import PyProof.Rows.All
import Wide.All
import OpenK.AllK
import Wide.FinOn
import PySem.Challenge.RW_lanescroll_k31_numbers_in_bytes
import HandS.ForMost
import HandS.ForExc
import HandS.IsInst
import HandS.TupLe
import HandS.Wide
import HandS.Defaults
import HandS.ExcIs
import HandS.Style
import HandS.Walk
import KE.KCallOwn
import KE.KSuper
import HandS.FStr
import HandS.MakeKwOnly
import HandS.Star
import PyProof.CollectIter
import PyProof.WalksMore
import HandS.CallLocal
import HandS.ExcOwn
import HandS.TupAny
import HandS.Lambda
import HandS.EndTab
import KE.KNestM
set_option Elab.async false
set_option linter.all false
set_option maxRecDepth 100000
set_option maxHeartbeats 4000000
namespace LK
open PySem PySem.Spec PyProof.Rows L2
def topS (i : Nat) : Stmt := PySem.Challenge.pw_lanescroll_k31_numbers_in_bytes.main.body.getD i (.Pass ⟨0, 0, 0, 0⟩)
abbrev s_is_number : Stmt := topS 6
abbrev N_is_number : List Str := ["thing"]
theorem sc_is_number : FnScope N_is_number ["thing"] (defScope s_is_number) := ⟨rfl, rfl, rfl, by decide +kernel, rfl, by decide +kernel, by decide +kernel⟩
abbrev s_is_whole : Stmt := topS 7
abbrev N_is_whole : List Str := ["thing", "low", "high"]
theorem sc_is_whole : FnScope N_is_whole ["thing", "low", "high"] (defScope s_is_whole) := ⟨rfl, rfl, rfl, by decide +kernel, rfl, by decide +kernel, by decide +kernel⟩
abbrev s_is_bytes : Stmt := topS 8
abbrev N_is_bytes : List Str := ["thing", "byte"]
theorem sc_is_bytes : FnScope N_is_bytes ["thing"] (defScope s_is_bytes) := ⟨rfl, rfl, rfl, by decide +kernel, rfl, by decide +kernel, by decide +kernel⟩
abbrev s_refuse_no_bytes : Stmt := topS 12
abbrev N_refuse_no_bytes : List Str := ["row"]
theorem sc_refuse_no_bytes : FnScope N_refuse_no_bytes ["row"] (defScope s_refuse_no_bytes) := ⟨rfl, rfl, rfl, by decide +kernel, rfl, by decide +kernel, by decide +kernel⟩
abbrev s_refuse_no_place : Stmt := topS 13
abbrev N_refuse_no_place : List Str := ["row", "at"]
theorem sc_refuse_no_place : FnScope N_refuse_no_place ["row", "at"] (defScope s_refuse_no_place) := ⟨rfl, rfl, rfl, by decide +kernel, rfl, by decide +kernel, by decide +kernel⟩
abbrev s_written : Stmt := topS 14
abbrev N_written : List Str := ["number", "row", "rest"]
theorem sc_written : FnScope N_written ["number"] (defScope s_written) := ⟨rfl, rfl, rfl, by decide +kernel, rfl, by decide +kernel, by decide +kernel⟩
abbrev s_number_at : Stmt := topS 15
abbrev N_number_at : List Str := ["row", "at", "number", "place", "figure"]
theorem sc_number_at : FnScope N_number_at ["row", "at"] (defScope s_number_at) := ⟨rfl, rfl, rfl, by decide +kernel, rfl, by decide +kernel, by decide +kernel⟩
abbrev s_read_number : Stmt := topS 16
abbrev N_read_number : List Str := ["row", "at", "found"]
theorem sc_read_number : FnScope N_read_number ["row", "at"] (defScope s_read_number) := ⟨rfl, rfl, rfl, by decide +kernel, rfl, by decide +kernel, by decide +kernel⟩
abbrev s_l_digit : Stmt := topS 18
abbrev N_l_digit : List Str := ["_law_state", "_law_base", "_law_found", "_law_number_here"]
theorem sc_l_digit : FnScope N_l_digit ["_law_state", "_law_base"] (defScope s_l_digit) := ⟨rfl, rfl, rfl, by decide +kernel, rfl, by decide +kernel, by decide +kernel⟩
abbrev s_l_figures : Stmt := topS 19
abbrev N_l_figures : List Str := ["_law_number_here", "_law_found"]
theorem sc_l_figures : FnScope N_l_figures ["_law_number_here"] (defScope s_l_figures) := ⟨rfl, rfl, rfl, by decide +kernel, rfl, by decide +kernel, by decide +kernel⟩
abbrev s_l_number_at : Stmt := topS 20
abbrev N_l_number_at : List Str := ["_law_row", "_law_at", "_law_number_here", "_law_place"]
theorem sc_l_number_at : FnScope N_l_number_at ["_law_row", "_law_at"] (defScope s_l_number_at) := ⟨rfl, rfl, rfl, by decide +kernel, rfl, by decide +kernel, by decide +kernel⟩
abbrev s_l_odd_row : Stmt := topS 21
abbrev N_l_odd_row : List Str := ["_law_state", "_law_row", "_law_odd", "_law_at"]
theorem sc_l_odd_row : FnScope N_l_odd_row ["_law_state", "_law_row"] (defScope s_l_odd_row) := ⟨rfl, rfl, rfl, by decide +kernel, rfl, by decide +kernel, by decide +kernel⟩
abbrev s_l_bytes : Stmt := topS 22
abbrev N_l_bytes : List Str := ["_law_state", "_law_many", "_law_plain_here", "_law_found", "_law_k", "_law_byte"]
theorem sc_l_bytes : FnScope N_l_bytes ["_law_state", "_law_many"] (defScope s_l_bytes) := ⟨rfl, rfl, rfl, by decide +kernel, rfl, by decide +kernel, by decide +kernel⟩
abbrev s_l_number : Stmt := topS 23
abbrev N_l_number : List Str := ["_law_state", "_law_way", "_law_number_here", "_law_k"]
theorem sc_l_number : FnScope N_l_number ["_law_state"] (defScope s_l_number) := ⟨rfl, rfl, rfl, by decide +kernel, rfl, by decide +kernel, by decide +kernel⟩
abbrev s_l_word : Stmt := topS 24
abbrev N_l_word : List Str := ["_law_ask", "e"]
theorem sc_l_word : FnScope N_l_word ["_law_ask"] (defScope s_l_word) := ⟨rfl, rfl, rfl, by decide +kernel, rfl, by decide +kernel, by decide +kernel⟩
abbrev s_l_plain : Stmt := topS 25
abbrev N_l_plain : List Str := ["_law_row", "_law_byte"]
theorem sc_l_plain : FnScope N_l_plain ["_law_row"] (defScope s_l_plain) := ⟨rfl, rfl, rfl, by decide +kernel, rfl, by decide +kernel, by decide +kernel⟩
abbrev s_l_reads : Stmt := topS 26
abbrev N_l_reads : List Str := ["_law_row", "_law_at", "_law_due", "_law_found", "_law_handed"]
theorem sc_l_reads : FnScope N_l_reads ["_law_row", "_law_at"] (defScope s_l_reads) := ⟨rfl, rfl, rfl, by decide +kernel, rfl, by decide +kernel, by decide +kernel⟩
abbrev s_l_odds : Stmt := topS 27
abbrev N_l_odds : List Str := ["_law_state", "_law_row", "_law_number_here", "_law_odd", "_law_place"]
theorem sc_l_odds : FnScope N_l_odds ["_law_state", "_law_row"] (defScope s_l_odds) := ⟨rfl, rfl, rfl, by decide +kernel, rfl, by decide +kernel, by decide +kernel⟩
abbrev s_law : Stmt := topS 28
abbrev N_law : List Str := ["_law_script", "_law_cell", "_law_state", "_law_number_here", "_law_bytes_told", "_law_ahead", "_law_row", "_law_turned", "_law_long", "_law_some", "_law_at"]
theorem sc_law : FnScope N_law ["_law_script"] (defScope s_law) := ⟨rfl, rfl, rfl, by decide +kernel, rfl, by decide +kernel, by decide +kernel⟩

/-- a def whose code object is known: it makes lambdas -/
structure FunC (K : PySem.W.Frag) (x qual : Str) (st : Stmt) (f : Addr) (fd : FuncData) (c : Addr) : Prop where
  ex : ∃ (oc : Value) (od : Option Addr) (kV doc pm : Value) (an : Option Addr) (ct : Value) (osl : Array (Option Value)), fd = PySem.W.fnOf x qual (defArgs st) (defBody st) (defScope st) .none kV doc pm an (.ref c) ct ∧ K.lookup f = some ⟨oc, od, .func fd, osl⟩ ∧ PySem.W.codeIn K (.ref c) qual = true
theorem FunC.ok {P : Program} {w : World} {K : PySem.W.Frag} {mg : Str → Option Value} {base : Heap} {x qual : Str} {st : Stmt} {f c : Addr} {fd : FuncData} {N ps : List Str} {k : Nat} {sp : Sp} (F : FunC K x qual st f fd c) (S : FnScope N ps (defScope st)) (ln : ∀ vs H Q E, sp vs H Q E → vs.length = ps.length)
    (hb : ∀ (A : Around) (outer : List Env) (s : Shared) (H : Hp) (vs : List V) (Q : VK) (E : XK), Room k (A.deeper (envOfC qual (defScope st) s.heap.objs.size f (.ref c))) → sp vs H Q E →
      ∃ t, PSs (cxOf CX0 P w K mg base N qual (defScope st) f (.ref c) A outer s H E).nox (defBody st) t ∧ t { nx := fun _ H' => Q .non H', rt := Q } (L2.start N vs) H) : FnOk P w K mg base CX0 (k + 1) f fd ps sp := by
  obtain ⟨oc, od, kV, doc, pm, an, ct, osl, rfl, lk, hcd⟩ := F.ex
  refine fn_of lk hcd S ln fun A outer s H vs Q E hr hsp => ?_
  obtain ⟨t, pt, q⟩ := hb A outer s H vs Q E hr hsp
  exact ⟨t, pt.nox, q⟩
/-- the table of a code object -/
def tabO (o : Obj) : Option Addr := match o.data with
  | .fields vs => match (vs[11]? : Option Value) with
    | some (Value.ref P) => some P
    | _ => none
  | _ => none
structure Txt (K : PySem.W.Frag) (mg : Str → Option Value) : Type where
  a_is_number : Addr
  d_is_number : FuncData
  F_is_number : Fun K "is_number" "is_number" s_is_number a_is_number d_is_number
  g_is_number : mg "is_number" = some (.ref a_is_number)
  b_is_number : Binds K d_is_number ["thing"] []
  a_is_whole : Addr
  d_is_whole : FuncData
  F_is_whole : Fun K "is_whole" "is_whole" s_is_whole a_is_whole d_is_whole
  g_is_whole : mg "is_whole" = some (.ref a_is_whole)
  b_is_whole : Binds K d_is_whole ["thing", "low", "high"] []
  a_is_bytes : Addr
  d_is_bytes : FuncData
  F_is_bytes : Fun K "is_bytes" "is_bytes" s_is_bytes a_is_bytes d_is_bytes
  g_is_bytes : mg "is_bytes" = some (.ref a_is_bytes)
  b_is_bytes : Binds K d_is_bytes ["thing"] []
  a_refuse_no_bytes : Addr
  d_refuse_no_bytes : FuncData
  F_refuse_no_bytes : Fun K "refuse_no_bytes" "refuse_no_bytes" s_refuse_no_bytes a_refuse_no_bytes d_refuse_no_bytes
  g_refuse_no_bytes : mg "refuse_no_bytes" = some (.ref a_refuse_no_bytes)
  b_refuse_no_bytes : Binds K d_refuse_no_bytes ["row"] []
  a_refuse_no_place : Addr
  d_refuse_no_place : FuncData
  F_refuse_no_place : Fun K "refuse_no_place" "refuse_no_place" s_refuse_no_place a_refuse_no_place d_refuse_no_place
  g_refuse_no_place : mg "refuse_no_place" = some (.ref a_refuse_no_place)
  b_refuse_no_place : Binds K d_refuse_no_place ["row", "at"] []
  a_written : Addr
  d_written : FuncData
  F_written : Fun K "written" "written" s_written a_written d_written
  g_written : mg "written" = some (.ref a_written)
  b_written : Binds K d_written ["number"] []
  a_number_at : Addr
  d_number_at : FuncData
  F_number_at : Fun K "number_at" "number_at" s_number_at a_number_at d_number_at
  g_number_at : mg "number_at" = some (.ref a_number_at)
  b_number_at : Binds K d_number_at ["row", "at"] []
  a_read_number : Addr
  d_read_number : FuncData
  F_read_number : FunD K "read_number" "read_number" (defArgs s_read_number) (defBody s_read_number) (defScope s_read_number) [V.int 0] [] a_read_number d_read_number
  g_read_number : mg "read_number" = some (.ref a_read_number)
  b_read_number : Binds K d_read_number ["row", "at"] []
  a_l_digit : Addr
  d_l_digit : FuncData
  F_l_digit : Fun K "_law_digit" "_law_digit" s_l_digit a_l_digit d_l_digit
  g_l_digit : mg "_law_digit" = some (.ref a_l_digit)
  b_l_digit : Binds K d_l_digit ["_law_state", "_law_base"] []
  a_l_figures : Addr
  d_l_figures : FuncData
  F_l_figures : Fun K "_law_figures" "_law_figures" s_l_figures a_l_figures d_l_figures
  g_l_figures : mg "_law_figures" = some (.ref a_l_figures)
  b_l_figures : Binds K d_l_figures ["_law_number_here"] []
  a_l_number_at : Addr
  d_l_number_at : FuncData
  F_l_number_at : Fun K "_law_number_at" "_law_number_at" s_l_number_at a_l_number_at d_l_number_at
  g_l_number_at : mg "_law_number_at" = some (.ref a_l_number_at)
  b_l_number_at : Binds K d_l_number_at ["_law_row", "_law_at"] []
  a_l_odd_row : Addr
  d_l_odd_row : FuncData
  F_l_odd_row : Fun K "_law_odd_row" "_law_odd_row" s_l_odd_row a_l_odd_row d_l_odd_row
  g_l_odd_row : mg "_law_odd_row" = some (.ref a_l_odd_row)
  b_l_odd_row : Binds K d_l_odd_row ["_law_state", "_law_row"] []
  a_l_bytes : Addr
  d_l_bytes : FuncData
  F_l_bytes : Fun K "_law_bytes" "_law_bytes" s_l_bytes a_l_bytes d_l_bytes
  g_l_bytes : mg "_law_bytes" = some (.ref a_l_bytes)
  b_l_bytes : Binds K d_l_bytes ["_law_state", "_law_many"] []
  a_l_number : Addr
  d_l_number : FuncData
  F_l_number : Fun K "_law_number" "_law_number" s_l_number a_l_number d_l_number
  g_l_number : mg "_law_number" = some (.ref a_l_number)
  b_l_number : Binds K d_l_number ["_law_state"] []
  a_l_word : Addr
  d_l_word : FuncData
  F_l_word : Fun K "_law_word" "_law_word" s_l_word a_l_word d_l_word
  g_l_word : mg "_law_word" = some (.ref a_l_word)
  b_l_word : Binds K d_l_word ["_law_ask"] []
  a_l_plain : Addr
  d_l_plain : FuncData
  F_l_plain : Fun K "_law_plain" "_law_plain" s_l_plain a_l_plain d_l_plain
  g_l_plain : mg "_law_plain" = some (.ref a_l_plain)
  b_l_plain : Binds K d_l_plain ["_law_row"] []
  a_l_reads : Addr
  d_l_reads : FuncData
  F_l_reads : Fun K "_law_reads" "_law_reads" s_l_reads a_l_reads d_l_reads
  g_l_reads : mg "_law_reads" = some (.ref a_l_reads)
  b_l_reads : Binds K d_l_reads ["_law_row", "_law_at"] []
  a_l_odds : Addr
  d_l_odds : FuncData
  F_l_odds : Fun K "_law_odds" "_law_odds" s_l_odds a_l_odds d_l_odds
  g_l_odds : mg "_law_odds" = some (.ref a_l_odds)
  b_l_odds : Binds K d_l_odds ["_law_state", "_law_row"] []
  a_law : Addr
  d_law : FuncData
  F_law : Fun K "law" "law" s_law a_law d_law
  g_law : mg "law" = some (.ref a_law)
  b_law : Binds K d_law ["_law_script"] []
  cw_l_reads : Addr
  tw_l_reads : Addr
  C_l_reads : FunC K "_law_reads" "_law_reads" s_l_reads a_l_reads d_l_reads cw_l_reads
  cw_l_odds : Addr
  tw_l_odds : Addr
  C_l_odds : FunC K "_law_odds" "_law_odds" s_l_odds a_l_odds d_l_odds cw_l_odds
  ds1_read_number : List Value
  v1_read_number : Vals [V.int 0] ds1_read_number
  b1_read_number : Binds K d_read_number ["row", "at"] ds1_read_number
  m_all : mg "all" = none
  m_bool : mg "bool" = none
  m_int : mg "int" = none
  m_isinstance : mg "isinstance" = none
  m_len : mg "len" = none
  m_list : mg "list" = none
  m_range : mg "range" = none
  m_tuple : mg "tuple" = none
  c_ScrollError : Addr
  g_ScrollError : mg "ScrollError" = some (.ref c_ScrollError)
  c_NoNumber : Addr
  g_NoNumber : mg "NoNumber" = some (.ref c_NoNumber)
  c_NoBytes : Addr
  g_NoBytes : mg "NoBytes" = some (.ref c_NoBytes)
  c_NoPlace : Addr
  g_NoPlace : mg "NoPlace" = some (.ref c_NoPlace)
  ct_GREATEST_NUMBER : Tok
  g_GREATEST_NUMBER : mg "GREATEST_NUMBER" = some (.int 1000000000000000000000000000000000000000000000000000000000000 ct_GREATEST_NUMBER)
  ct_BASE : Tok
  g_BASE : mg "BASE" = some (.int 128 ct_BASE)
  x_NoNumber : PySem.W.excIn K c_NoNumber [.type "ValueError", .type "Exception", .type "BaseException", .type "object"] "ValueError.__new__" = true
  k_NoNumber : PySem.W.keepIn K (.ref c_NoNumber) = true
  bb_NoNumber : PySem.W.subIn K (.ref c_NoNumber) (.type "BaseException") = some true
  t_NoNumber : PySem.W.typeIn K (.ref c_NoNumber) = some (.type "type")
  xc_NoNumber : ExcC K c_NoNumber
  x_NoBytes : PySem.W.excIn K c_NoBytes [.type "ValueError", .type "Exception", .type "BaseException", .type "object"] "ValueError.__new__" = true
  k_NoBytes : PySem.W.keepIn K (.ref c_NoBytes) = true
  bb_NoBytes : PySem.W.subIn K (.ref c_NoBytes) (.type "BaseException") = some true
  t_NoBytes : PySem.W.typeIn K (.ref c_NoBytes) = some (.type "type")
  xc_NoBytes : ExcC K c_NoBytes
  x_NoPlace : PySem.W.excIn K c_NoPlace [.type "ValueError", .type "Exception", .type "BaseException", .type "object"] "ValueError.__new__" = true
  k_NoPlace : PySem.W.keepIn K (.ref c_NoPlace) = true
  bb_NoPlace : PySem.W.subIn K (.ref c_NoPlace) (.type "BaseException") = some true
  t_NoPlace : PySem.W.typeIn K (.ref c_NoPlace) = some (.type "type")
  xc_NoPlace : ExcC K c_NoPlace
  em_NoBytes_NoBytes : PySem.W.exmOne K (.ref c_NoBytes) (.ref c_NoBytes) = some true
  em_NoNumber_NoBytes : PySem.W.exmOne K (.ref c_NoNumber) (.ref c_NoBytes) = some false
  em_NoPlace_NoBytes : PySem.W.exmOne K (.ref c_NoPlace) (.ref c_NoBytes) = some false
  em_NoBytes_NoPlace : PySem.W.exmOne K (.ref c_NoBytes) (.ref c_NoPlace) = some false
  em_NoNumber_NoPlace : PySem.W.exmOne K (.ref c_NoNumber) (.ref c_NoPlace) = some false
  em_NoPlace_NoPlace : PySem.W.exmOne K (.ref c_NoPlace) (.ref c_NoPlace) = some true
  em_NoBytes_NoNumber : PySem.W.exmOne K (.ref c_NoBytes) (.ref c_NoNumber) = some false
  em_NoNumber_NoNumber : PySem.W.exmOne K (.ref c_NoNumber) (.ref c_NoNumber) = some true
  em_NoPlace_NoNumber : PySem.W.exmOne K (.ref c_NoPlace) (.ref c_NoNumber) = some false
  em_NoBytes_ScrollError : PySem.W.exmOne K (.ref c_NoBytes) (.ref c_ScrollError) = some true
  em_NoNumber_ScrollError : PySem.W.exmOne K (.ref c_NoNumber) (.ref c_ScrollError) = some true
  em_NoPlace_ScrollError : PySem.W.exmOne K (.ref c_NoPlace) (.ref c_ScrollError) = some true
  io_NoBytes_NoNumber : PySem.W.kitOne K (.ref c_NoBytes) (.ref c_NoNumber) = some false
  io_NoNumber_NoNumber : PySem.W.kitOne K (.ref c_NoNumber) (.ref c_NoNumber) = some true
  io_NoPlace_NoNumber : PySem.W.kitOne K (.ref c_NoPlace) (.ref c_NoNumber) = some false
  io_NoBytes_NoPlace : PySem.W.kitOne K (.ref c_NoBytes) (.ref c_NoPlace) = some false
  io_NoNumber_NoPlace : PySem.W.kitOne K (.ref c_NoNumber) (.ref c_NoPlace) = some false
  io_NoPlace_NoPlace : PySem.W.kitOne K (.ref c_NoPlace) (.ref c_NoPlace) = some true
  io_NoBytes_NoBytes : PySem.W.kitOne K (.ref c_NoBytes) (.ref c_NoBytes) = some true
  io_NoNumber_NoBytes : PySem.W.kitOne K (.ref c_NoNumber) (.ref c_NoBytes) = some false
  io_NoPlace_NoBytes : PySem.W.kitOne K (.ref c_NoPlace) (.ref c_NoBytes) = some false
structure TabsT (base : Heap) (mg : Str → Option Value) {K : PySem.W.Frag} (T : Txt K mg) : Prop where
  tb_l_reads : LamX.TabB base mg T.cw_l_reads T.tw_l_reads
  tb_l_odds : LamX.TabB base mg T.cw_l_odds T.tw_l_odds
  ne_l_reads_l_odds : T.tw_l_reads ≠ T.tw_l_odds
/-! ### heaps -/
/-- all but what stands at p is as it was -/
def Frm (p : Addr) (H H' : Hp) : Prop := ∀ b o, b ≠ p → H b = some o → H' b = some o
theorem Frm.get {p q : Addr} {H H' : Hp} {o : HO} (f : Frm p H H') (n : q ≠ p) (h : H q = some o) : H' q = some o := f q o n h
theorem Frm.refl {p : Addr} {H : Hp} : Frm p H H := fun _ _ _ h => h
theorem Frm.trans {p : Addr} {H H1 H2 : Hp} (a : Frm p H H1) (b : Frm p H1 H2) : Frm p H H2 := fun c o n h => b c o n (a c o n h)
theorem Frm.upd {p : Addr} {H : Hp} {o : HO} : Frm p H (upd H p o) := fun c u n h => by rw [upd_ne n]; exact h
theorem upd_old {H : Hp} {a q : Addr} {o o' : HO} (na : H a = none) (h : H q = some o) : upd H a o' q = some o := by
  rw [upd_ne (ne_of_none h na)]; exact h
theorem upd_oth {H : Hp} {a q : Addr} {o o' : HO} (na : q ≠ a) (h : H q = some o) : upd H a o' q = some o := by
  rw [upd_ne na]; exact h
theorem Frm.new {p a : Addr} {H H' : Hp} {o : HO} (f : Frm p H H') (na : H' a = none) : Frm p H (L2.upd H' a o) := fun c u n h => upd_old na (f c u n h)
theorem Frm.upd2 {p : Addr} {H H' : Hp} {o : HO} (f : Frm p H H') : Frm p H (L2.upd H' p o) := f.trans .upd
theorem Frm.own {p a : Addr} {H H' : Hp} {o : HO} (f : Frm p H H') (na : H a = none) : Frm p H (L2.upd H' a o) := fun c u n h => upd_oth (ne_of_none h na) (f c u n h)
theorem Frm.new2 {p a : Addr} {H H' : Hp} {o o2 : HO} (f : Frm p H H') (na : H' a = none) : Frm p H (L2.upd (L2.upd H' a o2) a o) := by rw [upd_upd]; exact f.new na
theorem upd_old2 {H : Hp} {a q : Addr} {o o' o2 : HO} (na : H a = none) (h : H q = some o) : upd (upd H a o2) a o' q = some o := by rw [upd_upd]; exact upd_old na h
theorem new_ne {H : Hp} {a q : Addr} {o : HO} (na : H a = none) (h : H q = some o) : a ≠ q := fun e => by subst e; rw [na] at h; cases h
theorem Same.get {q : Addr} {H H' : Hp} {o : HO} (f : Same H H') (h : H q = some o) : H' q = some o := f q o h
theorem Same.new {a : Addr} {H H' : Hp} {o : HO} (f : Same H H') (na : H' a = none) : Same H (L2.upd H' a o) := fun c u h => upd_old na (f c u h)
theorem Same.new2 {a : Addr} {H H' : Hp} {o o2 : HO} (f : Same H H') (na : H' a = none) : Same H (L2.upd (L2.upd H' a o2) a o) := by rw [upd_upd]; exact Same.new f na
theorem Same.own {a : Addr} {H H' : Hp} {o : HO} (f : Same H H') (na : H a = none) : Same H (L2.upd H' a o) := fun c u h => upd_oth (ne_of_none h na) (f c u h)
theorem Same.frm {p : Addr} {H H' : Hp} (f : Same H H') : Frm p H H' := fun c u _ h => f c u h
/-- what is new to an elder heap and stands apart is no matter -/
theorem Frm.same {p : Addr} {H H' : Hp} (f : Frm p H H') (n : H p = none) : Same H H' := fun c u h => f c u (ne_of_none h n) h
theorem Same.byFrm {p : Addr} {H H1 H2 : Hp} (f : Same H H1) (g : Frm p H1 H2) (n : H p = none) : Same H H2 := fun c u h => g c u (ne_of_none h n) (f c u h)
theorem Frm.none {p q : Addr} {H H' : Hp} (f : Frm p H H') (n : q ≠ p) (h : H' q = none) : H q = none := by
  cases e : H q with
  | none => rfl
  | some o => rw [f q o n e] at h; cases h
theorem Same.none {q : Addr} {H H' : Hp} (f : Same H H') (h : H' q = none) : H q = none := by
  cases e : H q with
  | none => rfl
  | some o => rw [f q o e] at h; cases h
/-! ### sizes, ifs -/
theorem szb {n : Nat} (h : n ≤ 16000000) : n ≤ sizeLine := Nat.le_trans h (by decide)
theorem szbl {n : Nat} (h : n ≤ 16000000) : n < sizeLine := Nat.lt_of_le_of_lt h (by decide)
theorem sz {n : Nat} (h : Nat.ble n 1000 = true) : n ≤ sizeLine := Nat.le_trans (Nat.le_of_ble_eq_true h) (by decide)
theorem szl {n : Nat} (h : Nat.ble n 1000 = true) : n < sizeLine := Nat.lt_of_le_of_lt (Nat.le_of_ble_eq_true h) (by decide)
theorem szn {n : Nat} (h : n ≤ 1000) : n ≤ sizeLine := Nat.le_trans h (by decide)
theorem sznl {n : Nat} (h : n ≤ 1000) : n < sizeLine := Nat.lt_of_le_of_lt h (by decide)
theorem ifT {c : Bool} {A B : Prop} (h : c = true) (a : A) : if c = true then A else B := by rw [if_pos h]; exact a
theorem ifF {c : Bool} {A B : Prop} (h : c = false) (b : B) : if c = true then A else B := by rw [h, if_neg Bool.false_ne_true]; exact b
theorem ifC {c : Bool} {A B : Prop} (a : c = true → A) (b : c = false → B) : if c = true then A else B := by
  cases c with
  | true => exact ifT rfl (a rfl)
  | false => exact ifF rfl (b rfl)
theorem ifAnd {k1 k2 : Bool} {A : Prop} {Q : VK} {H : Hp} (a : Q (.bl k2) H → A) (h : Q (.bl (k1 && k2)) H) : if k1 = true then A else Q (.bl false) H := by
  cases k1 with
  | true => exact ifT rfl (a h)
  | false => exact ifF rfl h
/-! ### items at a drawn place -/
theorem at_nn {α : Type} {xs : List α} {d : Int} (h0 : 0 ≤ d) (h1 : d < xs.length) : ∃ v, atI xs d = some v ∧ v ∈ xs ∧ xs[d.toNat]? = some v := by
  have h2 : d.toNat < xs.length := by omega
  have e : (d.toNat : Int) = d := by omega
  have k := atI_nat (List.getElem?_eq_getElem h2)
  rw [e] at k
  exact ⟨xs[d.toNat], k, List.getElem_mem h2, List.getElem?_eq_getElem h2⟩
theorem ixP {K : PySem.W.Frag} {H : Hp} {Q : VK} {p : Addr} {xs : List V} {d : Int} (R : V → Prop) (hp : SqL K H p xs) (h0 : 0 ≤ d) (h1 : d < xs.length) (all : ∀ v ∈ xs, R v) (k : ∀ v, R v → Q v H) : rIxL K (.ref p) (.int d) H Q := by
  obtain ⟨v, e, m, _⟩ := at_nn h0 h1
  exact ⟨_, _, _, _, rfl, rfl, hp, e, k v (all v m)⟩
theorem ixG {K : PySem.W.Frag} {H : Hp} {Q : VK} {p : Addr} {xs : List V} {d : Int} (hp : SqL K H p xs) (h0 : 0 ≤ d) (h1 : d < xs.length) (k : ∀ v, xs[d.toNat]? = some v → Q v H) : rIxL K (.ref p) (.int d) H Q := by
  obtain ⟨v, e, _, m⟩ := at_nn h0 h1
  exact ⟨_, _, _, _, rfl, rfl, hp, e, k v m⟩
def isI : V → Bool
  | .int _ => true
  | _ => false
theorem ixI {K : PySem.W.Frag} {H : Hp} {Q : VK} {p : Addr} {xs : List V} {d : Int} (hp : SqL K H p xs) (h0 : 0 ≤ d) (h1 : d < xs.length) (all : xs.all isI = true) (k : ∀ i, V.int i ∈ xs → Q (.int i) H) : rIxL K (.ref p) (.int d) H Q := by
  refine ixP (fun v => (∃ i, v = .int i) ∧ v ∈ xs) hp h0 h1 (fun v hv => ⟨?_, hv⟩) (fun v ⟨⟨i, e⟩, m⟩ => ?_)
  · have := List.all_eq_true.mp all v hv
    cases v <;> first | exact ⟨_, rfl⟩ | cases this
  · subst e; exact k i m
/-! ### a call with keywords alone -/
section
variable {X : Cx} {CX : CXT} {k : Nat} {f : Addr} {fd : FuncData} {ps ks : List Str} {sp : Sp} {E : XK} {x : Str} {p pos : Pos} {kws : List Keyword} {tk : TA} {g : List Value → List Value → List Value} {gV : List V → List V → List V}
theorem pe_callN0 (F : FnOk X.prog X.w X.K X.mg X.base CX k f fd ps sp) (hr : Room k X.A) (hg : Gl X x) (hm : X.mg x = some (.ref f)) (hk : PySem.W.keepIn X.K (.ref f) = true) (hb : KBn X.K fd ps 0 ks g gV) (hx : Passes CX X E)
    (hkw : PK X kws tk) (hall : (backToKw pos (keywordEach kws X.env)).all (·.1.isSome) = true := by rfl) (hks : (backToKw pos (keywordEach kws X.env)).filterMap (·.1) = ks := by rfl)
    (hdb : (x == ("__debug__" : Str)) = false := by decide)
    (hpl : ((backTo pos (starEach [] X.env)).any (·.1) || (backToKw pos (keywordEach kws X.env)).any (·.1.isNone)) = false := by rfl) :
    PE X (.Call (.Name x p) [] kws pos) (tCallN 0 ks.length sp gV E tNil tk) := by
  refine ⟨fun pins s σ H Q I h => ?_⟩
  refine wpAny_Call_Name_kw (ld_glob I hg hm ?_ hdb)
  refine PySem.W.callWith_KW0 (h₀ := X.base) I.ok.mod.kin hk hall (thn (hkw.run pos pins s σ H _ I h) fun ws s2 ⟨zs, H2, I2, rz, l1, l2, q2⟩ => ⟨I2.kIn, ?_⟩) hpl
  rw [hks]
  exact run_fnN F hr hb hx I2 .nil rz rfl l2 q2
end
section
variable {K : PySem.W.Frag} {x qual : Str} {st : Stmt} {f : Addr} {fd : FuncData} {ps ks : List Str} {n : Nat}
theorem kbAll {F : Fun K x qual st f fd} {g : {α : Type} → List α → List α → List α} (h : ∀ (kV doc pm : Value) (an : Option Addr) (cdv ct : Value) (us ws : List Value), us.length = n → ws.length = ks.length →
    bindArgs (PySem.W.fnOf x qual (defArgs st) (defBody st) (defScope st) .none kV doc pm an cdv ct) ⟨us, ks.zip ws⟩ = pure (ps.zip (g us ws)))
    (hrel : ∀ {vs : List V} {us : List Value} {zs : List V} {ws : List Value}, Vals vs us → Vals zs ws → Vals (g vs zs) (g us ws)) : KBn K fd ps n ks (fun us ws => g us ws) (fun us ws => g us ws) := by
  obtain ⟨oc, od, kV, doc, pm, an, cdv, ct, osl, rfl, lk, hcd⟩ := F.ex
  exact ⟨fun s us ws _ h1 h2 => .of_eq (h kV doc pm an cdv ct us ws h1 h2), fun r1 r2 => hrel r1 r2⟩
variable {params : Arguments} {body : List Stmt} {scope : Scope} {dvs : List V}
theorem bindsAll {F : FunD K x qual params body scope dvs [] f fd}
    (h : ∀ (T : Addr) (kV doc pm : Value) (an : Option Addr) (cdv ct : Value) (us its : List Value), us.length = ps.length → its.length = dvs.length →
      ∃ k, bindArgs (PySem.W.fnOf x qual params body scope (.ref T) kV doc pm an cdv ct) ⟨us, []⟩ = seqItems? (.ref T) >>= k ∧ k (some its.toArray) = pure (ps.zip us)) (hd : dvs ≠ []) : Binds K fd ps [] := by
  obtain ⟨ds, hv, hb⟩ := F.binds1 (ps := ps) ps.length dvs.length hd (by omega) (fun T kV doc pm an cdv ct us its h1 h2 => by
    obtain ⟨k, e1, e2⟩ := h T kV doc pm an cdv ct us its h1 h2
    refine ⟨k, e1, ?_⟩
    rw [e2, ← h2, List.drop_length, List.append_nil])
  rw [List.drop_length] at hv
  cases hv
  exact hb
theorem kbAllD {F : FunD K x qual params body scope dvs [] f fd} {g : {α : Type} → List α → List α → List α}
    (h : ∀ (T : Addr) (kV doc pm : Value) (an : Option Addr) (cdv ct : Value) (us its ws : List Value), us.length = n → its.length = dvs.length → ws.length = ks.length →
      ∃ k, bindArgs (PySem.W.fnOf x qual params body scope (.ref T) kV doc pm an cdv ct) ⟨us, ks.zip ws⟩ = seqItems? (.ref T) >>= k ∧ k (some its.toArray) = pure (ps.zip (g us ws))) (hd : dvs ≠ [])
    (hrel : ∀ {vs : List V} {us : List Value} {zs : List V} {ws : List Value}, Vals vs us → Vals zs ws → Vals (g vs zs) (g us ws)) : KBn K fd ps n ks (fun us ws => g us ws) (fun us ws => g us ws) := by
  obtain ⟨oc, od, dV, kV, doc, pm, an, cdv, ct, osl, rfl, lk, hcd, hD, hK⟩ := F.ex
  rcases hD with ⟨e, _⟩ | ⟨_, T, o, its, m, rfl, lT, oT, rT⟩
  · exact absurd e hd
  · refine ⟨fun s us ws X l1 l2 => ?_, fun r1 r2 => hrel r1 r2⟩
    obtain ⟨k, e1, e2⟩ := h T kV doc pm an cdv ct us its ws l1 rT.length.symm l2
    refine BindsTo.of_looks fun M => ?_
    rw [e1]
    exact looks_items X lT oT (.of_pure e2)
theorem exm_by {K : PySem.W.Frag} {C S : Addr} {b : Bool} (h1 : PySem.W.subIn K (.ref S) (.type "BaseException") = some true) (h2 : PySem.W.isClsIn K S = true) (h3 : PySem.W.typeIn K (.ref S) = some (.type "type")) (h4 : PySem.W.subIn K (.ref C) (.ref S) = some b) :
    PySem.W.exmOne K (.ref C) (.ref S) = some b := by
  have e1 : (PySem.W.subIn K (.ref S) (.type "BaseException") == some true) = true := by rw [h1] <;> rfl
  have e2 : ((PySem.W.clsIn K S).isSome && PySem.W.typeIn K (.ref S) == some (.type "type")) = true := by
    have h2' : (PySem.W.clsIn K S).isSome = true := h2
    rw [h2', h3] <;> rfl
  show (if (PySem.W.subIn K (.ref S) (.type "BaseException") == some true) = true then (if ((PySem.W.clsIn K S).isSome && PySem.W.typeIn K (.ref S) == some (.type "type")) = true then PySem.W.subIn K (.ref C) (.ref S) else none) else none) = some b
  rw [if_pos e1, if_pos e2]
  exact h4
end
/-! ### a < b < c of whole numbers, as one answer -/
def MonoE (t : TE) : Prop := ∀ (σ : L2.St) (H : Hp) (Q Q' : VK), (∀ v H', Q v H' → Q' v H') → t σ H Q → t σ H Q'
theorem mn_var {i : Nat} : MonoE (tVar i) := fun _ _ _ _ k ⟨v, e, q⟩ => ⟨v, e, k _ _ q⟩
theorem mn_c {v : V} : MonoE (tC v) := fun _ _ _ _ k q => k _ _ q
theorem mn_I0 {g : Int → Int → V} {ta tb : TE} (a : MonoE ta) (b : MonoE tb) : MonoE (tOp (rI0 g) ta tb) := fun σ H Q Q' k h =>
  a σ H _ _ (fun _ H1 h1 => b σ H1 _ _ (fun _ _ ⟨i, j, e1, e2, q⟩ => ⟨i, j, e1, e2, k _ _ q⟩) h1) h
theorem mn_I {C : Int → Int → Prop} {g : Int → Int → V} {ta tb : TE} (a : MonoE ta) (b : MonoE tb) : MonoE (tOp (rI C g) ta tb) := fun σ H Q Q' k h =>
  a σ H _ _ (fun _ H1 h1 => b σ H1 _ _ (fun _ _ ⟨i, j, e1, e2, c, q⟩ => ⟨i, j, e1, e2, c, k _ _ q⟩) h1) h
theorem mn_ixL {K : PySem.W.Frag} {ta tb : TE} (a : MonoE ta) (b : MonoE tb) : MonoE (tOp (rIxL K) ta tb) := fun σ H Q Q' k h =>
  a σ H _ _ (fun _ H1 h1 => b σ H1 _ _ (fun _ _ ⟨p, xs, i, v, e1, e2, s, e, q⟩ => ⟨p, xs, i, v, e1, e2, s, e, k _ _ q⟩) h1) h
theorem mn_ixT {K : PySem.W.Frag} {ta tb : TE} (a : MonoE ta) (b : MonoE tb) : MonoE (tOp (rIxT K) ta tb) := fun σ H Q Q' k h =>
  a σ H _ _ (fun _ H1 h1 => b σ H1 _ _ (fun _ _ ⟨p, xs, i, v, e1, e2, s, e, q⟩ => ⟨p, xs, i, v, e1, e2, s, e, k _ _ q⟩) h1) h
theorem mn_len {r : List V → Hp → VK → Prop} {ta : TE} (a : MonoE ta) (hr : ∀ vs H (Q Q' : VK), (∀ v H', Q v H' → Q' v H') → r vs H Q → r vs H Q') : MonoE (tCB r (tCons ta tNil)) := fun σ H Q Q' k h =>
  a σ H _ _ (fun _ H1 h1 => hr _ _ _ _ k h1) h
def tChI (g g' : Int → Int → Bool) (ta tb tc : TE) : TE := fun σ H Q => ta σ H fun x H1 => tb σ H1 fun y H2 => tc σ H2 fun z H3 => ∃ i j l : Int, x = .int i ∧ y = .int j ∧ z = .int l ∧ H3 = H2 ∧ Q (.bl (g i j && g' j l)) H2
/-- what c's reading tells is told at once: c changes nothing -/
theorem tChI_to {g g' : Int → Int → Bool} {ta tb tc : TE} (ma : MonoE ta) (mb : MonoE tb) (mc : MonoE tc) {σ : L2.St} {H : Hp} {Q : VK} (cx : ∀ (σ : L2.St) (H : Hp) (Q : V → Hp → Prop), tc σ H Q → ∃ v H', Q v H') (h : tChI g g' ta tb tc σ H Q) :
    tChain (rI0 fun i j => .bl (g i j)) (rI0 fun i j => .bl (g' i j)) ta tb tc σ H Q := by
  refine ma σ H _ _ (fun x H1 h1 => mb σ H1 _ _ (fun y H2 h2 => ?_) h1) h
  obtain ⟨_, _, i, j, l, ex, ey, _, _, q⟩ := cx _ _ _ h2
  refine ⟨i, j, ex, ey, _, rfl, ?_⟩
  cases e : g i j with
  | true =>
    refine ifT rfl (mc σ H2 _ _ (fun z H3 h3 => ?_) h2)
    obtain ⟨i', j', l', ex', ey', ez, e3, q'⟩ := h3
    have e1 : i' = i := V.int.inj (ex'.symm.trans ex)
    have e2 : j' = j := V.int.inj (ey'.symm.trans ey)
    subst e1 e2 ez e3
    rw [e, Bool.true_and] at q'
    exact ⟨j', l', ey, rfl, q'⟩
  | false =>
    rw [e, Bool.false_and] at q
    exact ifF rfl q
def ShowsE (t : TE) : Prop := ∀ (σ : L2.St) (H : Hp) (Q : V → Hp → Prop), t σ H Q → ∃ v H', Q v H'
theorem sh_var {i : Nat} : ShowsE (tVar i) := fun _ _ _ ⟨v, _, q⟩ => ⟨v, _, q⟩
theorem sh_c {v : V} : ShowsE (tC v) := fun _ _ _ q => ⟨_, _, q⟩
theorem sh_I0 {g : Int → Int → V} {ta tb : TE} (a : ShowsE ta) (b : ShowsE tb) : ShowsE (tOp (rI0 g) ta tb) := fun σ H Q h => by
  obtain ⟨x, H1, h1⟩ := a _ _ _ h
  obtain ⟨y, H2, h2⟩ := b _ _ _ h1
  obtain ⟨i, j, _, _, q⟩ := h2
  exact ⟨_, _, q⟩
theorem sh_I {C : Int → Int → Prop} {g : Int → Int → V} {ta tb : TE} (a : ShowsE ta) (b : ShowsE tb) : ShowsE (tOp (rI C g) ta tb) := fun σ H Q h => by
  obtain ⟨x, H1, h1⟩ := a _ _ _ h
  obtain ⟨y, H2, h2⟩ := b _ _ _ h1
  obtain ⟨i, j, _, _, _, q⟩ := h2
  exact ⟨_, _, q⟩
theorem sh_ixL {K : PySem.W.Frag} {ta tb : TE} (a : ShowsE ta) (b : ShowsE tb) : ShowsE (tOp (rIxL K) ta tb) := fun σ H Q h => by
  obtain ⟨x, H1, h1⟩ := a _ _ _ h
  obtain ⟨y, H2, h2⟩ := b _ _ _ h1
  obtain ⟨_, _, _, _, _, _, _, _, q⟩ := h2
  exact ⟨_, _, q⟩
theorem sh_ixT {K : PySem.W.Frag} {ta tb : TE} (a : ShowsE ta) (b : ShowsE tb) : ShowsE (tOp (rIxT K) ta tb) := fun σ H Q h => by
  obtain ⟨x, H1, h1⟩ := a _ _ _ h
  obtain ⟨y, H2, h2⟩ := b _ _ _ h1
  obtain ⟨_, _, _, _, _, _, _, _, q⟩ := h2
  exact ⟨_, _, q⟩
theorem PE.weak {X : Cx} {e : Expr} {t t' : TE} (h : PE X e t) (w : ∀ σ H Q, t' σ H Q → t σ H Q) : PE X e t' := ⟨fun pins s σ H Q I q => h.run pins s σ H Q I (w _ _ _ q)⟩
theorem pe_chainI {X : Cx} {op op' : CmpOp} {g g' : Int → Int → Bool} {a b c : Expr} {ta tb tc : TE} {pos : Pos} (ho : OpR X (compareOp op) (rI0 fun i j => .bl (g i j))) (ho' : OpR X (compareOp op') (rI0 fun i j => .bl (g' i j)))
    (ha : PE X a ta) (hb : PE X b tb) (hc : PE X c tc) (ma : MonoE ta) (mb : MonoE tb) (mc : MonoE tc) (sc : ShowsE tc) (hm : lastMarks [op, op'] [b, c] = false := by rfl) : PE X (.Compare a [op, op'] [b, c] pos) (tChI g g' ta tb tc) :=
  PE.weak (pe_chain ho ho' ha hb hc hm) (fun _ _ _ h => tChI_to ma mb mc sc h)
/-! ### rules within a comprehension: the written part by its own name -/
section
variable {X : Cx} {K : PySem.W.Frag}
theorem ix_listK (h : X.K = K) : IxR X (rIxL K) := h ▸ ix_list
theorem ix_tupK (h : X.K = K) : IxR X (rIxT K) := h ▸ ix_tup
theorem sl_listK (h : X.K = K) : SlR X (rSlL K) := h ▸ sl_list
theorem call_len_seqK (h : X.K = K) : CallR X (.builtin "len") (fun xs H Q => ∃ p ys, xs = [.ref p] ∧ (SqL K H p ys ∨ SqT K H p ys) ∧ Q (.int ys.length) H) := h ▸ call_len_seq
end
section
variable {X : Cx} {K : PySem.W.Frag}
theorem call_isiB (h : X.K = K) : CallR X (.builtin "isinstance") (rIsi K) := h ▸ call_isi
end
section
variable {X : Cx} {K : PySem.W.Frag}
theorem op_neDK (h : X.K = K) (hu : X.A.units + 64 < cLine) : OpR X (compareOp .NotEq) (rNeD K) := h ▸ op_neD hu
theorem op_eqDK (h : X.K = K) (hu : X.A.units + 64 < cLine) : OpR X (compareOp .Eq) (rEqD K) := h ▸ op_eqD hu
end
/-! ### + of two lists, the script among them; + of two truths -/
theorem list_add_any (l : Addr) (items : Array Value) (n : Nat) (sl : Array (Option Value)) (b : Addr) (items2 : Array Value) (n2 : Nat) (sl2 : Array (Option Value)) (hc0 : items.size + items2.size ≤ sizeLine) :
    Meets (Builtin.«list.__add__» ⟨[.ref l, .ref b], []⟩) (fun _ R s => s.heap.get? l = some { cls := .type "list", dict := none, data := .seq items n, slots := sl } ∧ s.heap.get? b = some { cls := .type "list", dict := none, data := .seq items2 n2, slots := sl2 } ∧ R (.ok (.ret (Value.ref s.heap.objs.size))) { s with heap := s.heap.push { cls := Value.type "list", data := Data.seq (items ++ items2) } }) :=
  .of_wp fun prog w A R s h => by
    obtain ⟨hp, g, d, tk, os⟩ := s
    obtain ⟨hl, hb, h⟩ := h
    have f3 := AutoSeq1.sub_list_list
    wp_walk using AutoSeq1.wpAny_loadPart' hl, AutoSeq1.wpAny_loadPart' hb
    exact ⟨_, rfl, h⟩
def rCatF (K : PySem.W.Frag) : R2 := fun x y H Q => ∃ l b xs zs, x = .ref l ∧ y = .ref b ∧ SqL K H l xs ∧ SqL K H b zs ∧ xs.length + zs.length ≤ sizeLine ∧ ∀ p, H p = none → Q (.ref p) (upd H p (.lst (xs ++ zs)))
theorem op_catF {X : Cx} : OpR X (binaryOp .Add) (rCatF X.K) := by
  intro pins s σ H x y v u Q I rx ry h
  obtain ⟨l, b, xs, zs, rfl, rfl, hH, hB, hz, q⟩ := h
  cases rx
  cases ry
  obtain ⟨its, r, ⟨o, n, e, hc, hd, hs⟩, _⟩ := I.list hH
  obtain ⟨its2, r2, ⟨o2, n2, e2, hc2, hd2, hs2⟩, _⟩ := I.list hB
  obtain ⟨oc, od, odt, osl⟩ := o
  obtain ⟨oc2, od2, odt2, osl2⟩ := o2
  simp only at hc hd hs hc2 hd2 hs2
  subst hc hd hs hc2 hd2 hs2
  have l1 := r.length
  have l2 := r2.length
  refine PySem.concat_meets ⟨_, e, rfl⟩ ⟨_, e2, rfl⟩ PySem.noFill_list_add PySem.seq_list_add PySem.F.slot_list_add PySem.F.entry_list_add (PySem.F.args_list_add_2 _ _) (list_add_any l its.toArray n osl b its2.toArray n2 osl2 (by rw [List.size_toArray, List.size_toArray]; omega)) ⟨e, e2, ?_⟩
  have ea : its.toArray ++ its2.toArray = (its ++ its2).toArray := by simp
  rw [ea]
  exact ⟨.ref _, _, I.lnew (t' := s.toks) (r.append r2) (by rw [List.length_append]; omega), rfl, q _ I.fresh⟩
theorem give_bb (a b : Bool) : Gives (Builtin.«int.__add__» ⟨[.bool a, .bool b], []⟩) (.int ((if a = true then (1 : Int) else 0) + (if b = true then (1 : Int) else 0))) := .of_wp fun M A E s Q h => by
  obtain ⟨hp, g, d, tk, os⟩ := s
  wp_walk
  exact ⟨_, rfl, h⟩
theorem op_add_bb {X : Cx} : OpR X (binaryOp .Add) (fun x y H Q => ∃ i k, x = .bl i ∧ y = .bl k ∧ Q (.int ((if i = true then (1 : Int) else 0) + (if k = true then (1 : Int) else 0))) H) := by
  intro pins s σ H x y v u Q I rx ry h
  obtain ⟨i, k, rfl, rfl, q⟩ := h
  cases rx
  cases ry
  exact binaryOp_gives (op := .Add) (T := "bool") rfl rfl PySem.F.fills_bool_add PySem.F.slot_bool_add PySem.F.entry_int_add (PySem.F.args_int_add_2 _ _) (give_bb i k) trivial ⟨.int _, H, I.tok _, ⟨_, rfl⟩, q⟩
/-! ### a, *b = a tuple -/
theorem Walks.later {prog : Program} {w : World} {A : Around} {I : Addr} {fp wr : List Addr} {n : Nat} {P : Nat → Value → Prop} {St : Nat → Heap → Prop} (W : Walks prog w A I fp wr (n + 1) P St) :
    Walks prog w A I fp wr n (fun i => P (i + 1)) (fun i => St (i + 1)) where
  sub := W.sub
  frame i := W.frame (i + 1)
  item i s Q E hi st hQ := W.item (i + 1) s Q E (by omega) st hQ
  done s Q E st hQ := W.done s Q E st hQ
  self i := W.self (i + 1)
theorem unpack_star {prog : Program} {w : World} {A : Around} {E : Value → Shared → Prop} {s : Shared} {t : Addr} {x : Value} {xs : List Value} {Q : List Value → Shared → Prop} (hh : A.handled = none) (ht : IsTup s.heap t (x :: xs).toArray) (hz : xs.length ≤ sizeLine)
    (hQ : ∀ (h' : Heap) (tk : Nat), (∀ b o, s.heap.get? b = some o → h'.get? b = some o) → Q [x, .ref h'.objs.size] { s with heap := h'.push { cls := .type "list", data := .seq xs.toArray }, toks := tk }) :
    wpAny (model prog w) A (unpackItems (.ref t) 2 (some 1)) Q E s := by
  have hlt : t ≠ s.heap.objs.size := by
    obtain ⟨o, ho, _⟩ := ht
    exact Nat.ne_of_lt (Heap.lt_size ho)
  unfold unpackItems
  refine wpAny_bind ?_
  unfold notIterableAtAll
  refine wpAny_bind (wpAny_specialOf ht.typeIs slot_tuple_iter.lookup (wpAny_pure ?_))
  simp only [Bool.false_eq_true, if_false]
  refine wpAny_bind (wpAny_holding (iter_tuple ht (wpAny_bind (wpAny_holding (draw_tuple hlt 1 0 _ _ ⟨_, Heap.get?_push_size _ rfl, rfl, rfl⟩ (ht.push _) (by simp) fun h1 it1 same1 => ?_)))))
  have ht1 : IsTup h1 t (x :: xs).toArray := (ht.push _).extBut same1.extBut hlt
  have e1 : List.take 1 (List.drop 0 (x :: xs).toArray.toList) = [x] := rfl
  rw [e1, if_neg (by simp)]
  refine wpAny_bind (wpAny_holding ?_)
  have W := (Walks.later (Walks.tuple (prog := prog) (w := w) (A := A.in1) hh s.heap.objs.size t hlt (x :: xs).toArray)).toS
  have hbig : s.heap.objs.size < h1.objs.size := by
    obtain ⟨o, ho, _⟩ := it1
    exact Heap.lt_size ho
  refine wpAny_collect_iter (T := "tuple_iterator") (.inr (.inr (.inr rfl))) W (fun i s' st => st.1.typeIs) ⟨it1, ht1⟩ (fun b hb => ?_) (by simp) (fun s' acc mv items => ?_) hz
  · simp only [List.mem_cons, List.not_mem_nil, or_false] at hb
    obtain ⟨o, ho, _⟩ := id ht1
    rcases hb with rfl | rfl
    · exact hbig
    · exact Heap.lt_size ho
  · have el : acc.toList = xs := by
      refine List.ext_getElem (by simpa using items.1) fun j h2 h3 => ?_
      have := items.2 j acc.toList[j] (by simp)
      simpa [List.getElem?_eq_getElem h3] using this.symm
    rw [el, if_neg (by omega)]
    refine wpAny_bind (wpAny_newList ?_ )
    have em : List.take (xs.length - (2 - 1 - 1)) xs = xs := List.take_of_length_le (by omega)
    have ed : List.drop (xs.length - (2 - 1 - 1)) xs = [] := List.drop_of_length_le (by omega)
    rw [em, ed, Moved.eq_with mv]
    refine wpAny_pure (hQ s'.heap s'.toks fun b o e => ?_)
    have nb : b ≠ s.heap.objs.size := Nat.ne_of_lt (Heap.lt_size e)
    exact mv.heap b o (by simpa using nb) (same1.extBut b o nb (Heap.get?_push_of_some _ e))
def gStar (K : PySem.W.Frag) (g0 g1 : TG) : TG := fun v σ H Q => ∃ a x xs, v = .ref a ∧ SqT K H a (x :: xs) ∧ ∀ l, H l = none → g0 x σ (upd H l (.lst xs)) fun σ1 H1 => g1 (.ref l) σ1 H1 Q
theorem pg_star {X : Cx} {e0 e1 : Expr} {p pos : Pos} {k : Nat} {g0 g1 : TG} (hc : X.calm = true) (h0 : PG X e0 g0) (h1 : PG X e1 g1) (he : assignEach [e0, .Starred e1 p] X.env = [(false, assign e0 X.env), (true, assign e1 X.env)] := by rfl) :
    PG X (.Tuple [e0, .Starred e1 p] k pos) (gStar X.K g0 g1) := by
  constructor
  rintro pins s σ H v u Q I r ⟨a, x, xs, rfl, hq, hw⟩
  cases r
  obtain ⟨its, rv, ht, hz⟩ := I.tuple hq
  cases rv with
  | @cons _ y _ ys ry rys =>
    rw [assign_Tuple]
    refine wpAny_bind (wpAny_standAt ?_)
    unfold unpack
    rw [he]
    refine wpAny_bind (wpAny_holding (unpack_star (I.ok.hd hc) ht (by rw [← rys.length]; simp only [List.length] at hz; omega) fun h' tk kp => ?_))
    have I1 : Inv X pins σ H { s with heap := h', toks := tk } := I.kept kp
    have I2 := I1.lnew (t' := tk) rys (by simp only [List.length] at hz; omega)
    refine assignInOrder_cons (thn (h0.run pins _ σ _ _ _ _ I2 ry (hw _ I1.fresh)) fun _ s1 z => ?_)
    obtain ⟨σ1, H1, I3, q1⟩ := z
    refine assignInOrder_cons (thn (h1.run pins s1 σ1 H1 (.ref h'.objs.size) _ Q I3 rfl q1) fun _ s2 z => ?_)
    exact assignInOrder_nil z
/-! ### a class made of the things of a list -/
def tMakeS (K : PySem.W.Frag) (C : Addr) (sp : Sp) (E : XK) (te : TE) : TE := fun u G Q => te u G fun y G1 => ∃ a xs, y = .ref a ∧ (SqT K G1 a xs ∨ SqL K G1 a xs) ∧
  ∀ o d, G1 o = none → G1 d = none → d ≠ o → sp (.ref o :: xs) (upd (upd G1 d (.own o)) o (.ins C d [])) (fun v G2 => v = .non ∧ Q (.ref o) G2) E
theorem pe_makeS {X : Cx} {CT : CXT} {k : Nat} {f C : Addr} {fd : FuncData} {ps : List Str} {sp : Sp} {E : XK} {x : Str} {p q pos : Pos} {e : Expr} {te : TE} (M : Mk X.K C f) (F : FnOk X.prog X.w X.K X.mg X.base CT k f fd ps sp) (hr : Room (k + 1) X.A) (hg : Gl X x) (hm : X.mg x = some (.ref C)) (hb : Binds X.K fd ps []) (hx : Passes CT X E) (he : PE X e te)
    (nd : (x == ("__debug__" : Str)) = false := by decide) (hs : starEach [.Starred e q] X.env = [(true, eval e X.env)] := by rfl) : PE X (.Call (.Name x p) [.Starred e q] [] pos) (tMakeS X.K C sp E te) := by
  constructor
  intro pins s u G Q I h
  refine wpAny_Call_Name_kw (ld_glob I hg hm (PySem.W.callWith_S (h₀ := X.base) I.ok.mod.kin M.kp (thn (he.run pins s u G _ I h) ?_) hs) nd)
  rintro v s1 ⟨y, G1, I1, ry, a, xs, rfl, hxs, q⟩
  cases ry
  refine StX.star_any I1 hxs fun us s2 I2 rv => ⟨I2.kIn, ?_⟩
  refine run_make (dvs := []) M F hr hb .nil hx I2 rv fun o d h1 h2 h3 => ?_
  rw [List.append_nil]
  exact q o d h1 h2 h3
/-! ### a method of an object whose class is one of several -/
theorem pe_either {X : Cx} {e : Expr} {t u : TE} (h : PE X e t) (k : PE X e u) : PE X e (fun σ H Q => t σ H Q ∨ u σ H Q) := ⟨fun pins s σ H Q I q => q.elim (h.run pins s σ H Q I) (k.run pins s σ H Q I)⟩
/-! ### several clauses of one try, each with a name for the error or without -/
abbrev Suite := Addr → Value → Option Addr → TS
/-- what follows a suite whose error had the slot i -/
def offAt (i : Nat) (D : Ends) : Ends := { nx := fun u G => D.nx (u.set i none) G, rt := D.rt, bk := fun u G => D.bk (u.set i none) G, ct := fun u G => D.ct (u.set i none) G }
def wMix (K : PySem.W.Frag) (Wo : WX) (D : Ends) : List (Value × Option Nat × Suite) → WX
  | [] => Wo
  | (c, none, t) :: r => fun k d u G => ∃ y, PySem.W.exmOne K k c = some y ∧ (y = true → ∀ e, G e = none → t e k d D u G) ∧ (y = false → wMix K Wo D r k d u G)
  | (c, some i, t) :: r => fun k d u G => ∃ y, PySem.W.exmOne K k c = some y ∧ (y = true → ∀ e, G e = none → t e k d (offAt i D) (u.set i (some (.ref e))) G) ∧ (y = false → wMix K Wo D r k d u G)
inductive Clauses (X : Cx) : List ExceptHandler → List (Value × Option Nat × Suite) → Prop
  | nil : Clauses X [] []
  | bare {x : Str} {c : Value} {t : Suite} {b : Stmt} {bs : List Stmt} {p1 p2 : Pos} {hds l} (hc : Names X x c)
      (su : ∀ e oe k d pn, Zc k d oe → (∃ vs, oe.data = .fields vs) → PSs (X.suite e ((e, oe) :: pn)) (b :: bs) (t e k d)) (r : Clauses X hds l) :
      Clauses X (.ExceptHandler (some (.Name x p1)) none (b :: bs) p2 :: hds) ((c, none, t) :: l)
  | named {x n : Str} {c : Value} {i : Nat} {t : Suite} {b : Stmt} {bs : List Stmt} {p1 p2 : Pos} {hds l} (hN : X.N.Nodup) (hi : X.N[i]? = some n) (hl : X.env.kindOf n = some .local) (hc : Names X x c)
      (su : ∀ e oe k d pn, Zc k d oe → (∃ vs, oe.data = .fields vs) → PSs (X.suite e ((e, oe) :: pn)) (b :: bs) (t e k d)) (r : Clauses X hds l) :
      Clauses X (.ExceptHandler (some (.Name x p1)) (some n) (b :: bs) p2 :: hds) ((c, some i, t) :: l)
theorem ps_try_mix {X : Cx} {body : List Stmt} {h1 : ExceptHandler} {hds : List ExceptHandler} {l : List (Value × Option Nat × Suite)} {pos : Pos} {tb : WX → TS} {Wo : WX} (hs : X.stack = X.env :: X.outer) (hf : X.env.frame = some X.env.locals) (tk : Takes X Wo)
    (hb : ∀ W pn xe, Takes (X.tr pn xe) W → PassesOwn (model X.prog X.w) X.A X.env xe → PSs (X.tr pn xe) body (tb W)) (hh : Clauses X (h1 :: hds) l) :
    PS X (.Try body (h1 :: hds) [] [] pos) (fun D u G => tb (wMix X.K Wo D l) D u G) := by
  constructor
  intro pins s u G D I h
  have ok := I.ok
  have frm : X.A.frames = some (X.env :: X.outer) := by rw [ok.frames, hs]
  refine wpAny_Try_except (wpAny_mono ((hb (wMix X.K Wo D l) (X.pn ++ pins) (fun e s₁ => wpAny (model X.prog X.w) X.A (noteFrame e X.env) (fun _ s₂ => wpAny (model X.prog X.w) X.A (setFlight e none) (fun _ s₃ => wpAny (model X.prog X.w) X.A (handleBy e X.env (h1 :: hds)) (SP X pins D) X.xe s₃) X.xe s₂) X.xe s₁) (fun v s' xx => ?_) PassesOwn.looking).run [] s u G D (I.toTry _) h) (fun f s1 z => ?_) (fun _ _ z => z))
  · obtain ⟨e, B, sI, _, u', G', k, d, rfl, J0, nb, up, sky, na, os, ag, wish⟩ := xx
    have J : Inv X pins u' G' sI := J0.ofTry ok
    refine Sky.land Zc.steady frm hf (by rw [← hs]; exact sky) fun h3 fl up3 => ?_
    have up13 := up.trans up3
    obtain ⟨o3, _, g3, z3, d3⟩ := fl.there
    have far : e ∉ frs (X.env :: X.outer) := by
      intro m
      obtain ⟨_, o', g', no⟩ := fl.2.2.1.mem m
      cases g3.symm.trans g'
      exact no _ d3
    have nl : e ≠ X.env.locals := by
      intro z
      exact far (List.mem_filterMap.mpr ⟨X.env, List.mem_cons_self, by rw [hf, z]⟩)
    have nf : e ∉ X.fs := by
      intro m
      obtain ⟨v, hv, q⟩ := List.mem_filterMap.mp m
      exact far (List.mem_filterMap.mpr ⟨v, List.mem_cons_of_mem _ hv, q⟩)
    have J3 : Inv X pins u' G' { s' with heap := h3 } := J.landed nb fl.1 up13 os ag
    have S3 := J3.suite g3 d3 na nl nf
    have TY : PySem.W.Looks (model X.prog X.w) h3 (typeOf (.ref e)) k := fun _ _ _ _ kk q => wpAny_typeOf_ref (kk _ _ g3) (z3.1 ▸ q)
    have name : ∀ {x : Str} {c : Value} {p1 : Pos}, Names X x c → ∀ {Q : Value → Shared → Prop} {E : Value → Shared → Prop}, Q c { s' with heap := h3 } → wpAny (model X.prog X.w) (X.A.mark (some (.ref e))) (eval (.Name x p1) X.env) Q E { s' with heap := h3 } := by
      rintro x c p1 ⟨g, nd, m | ⟨m, bv, nn⟩⟩ Q E q
      · exact ld_glob (X := X.suite e ((e, o3) :: (X.pn ++ pins))) S3 g m q nd
      · exact ld_blt (X := X.suite e ((e, o3) :: (X.pn ++ pins))) S3 g m bv q nn nd
    suffices go : ∀ {hd : List ExceptHandler} {l' : List (Value × Option Nat × Suite)}, Clauses X hd l' → wMix X.K Wo D l' k d u' G' → wpAny (model X.prog X.w) X.A (handleBy (.ref e) X.env hd) (SP X pins D) X.xe { s' with heap := h3 } from go hh wish
    intro hd l' cl
    induction cl with
    | nil =>
      intro wi
      refine wpAny_handleBy_nil ?_
      obtain ⟨_, _, _, oe, vs, T, oT, tt, he, hz, hdd, hT, hr⟩ := id fl
      unfold PySem.passOn
      refine wpAny_bind (wpAny_field he hdd hT ?_)
      rw [if_neg (by simp : ¬ ((Value.ref T == Value.none) = true))]
      have last : wpAny (model X.prog X.w) X.A (setFlight (.ref e) X.env.frame) (fun _ s4 => wpAny (model X.prog X.w) X.A (throw (.ref e) : Sem Flow) (SP X pins D) X.xe s4) X.xe { s' with heap := h3 } := by
        rw [hf]
        refine HandSPX.setFlight_upZ fl fun h4 hh4 up4 => wpAny_throw (tk _ _ ⟨e, B, sI, pins, u', G', k, d, rfl, J, nb, up13.trans up4, .inr (.inr ?_), na, os, ag, wi⟩)
        rw [hs]; exact hh4
      first | exact wpAny_bind (wpAny_pure (wpAny_bind last)) | exact wpAny_bind last
    | bare hc su r ih =>
      rintro ⟨y, ey, yes, no⟩
      refine wpAny_handleBy_cons (codeAny_handlers_test (name hc ((PySem.W.exm_one (M := model X.prog X.w) J3.kIn TY ey).here ?_))) (fun q => by cases q)
      cases y with
      | false => exact ih (no rfl)
      | true =>
        refine codeAny_handlers_suite (HandSPX.lands_againZ fl fun h4 fl4 up4 => ?_)
        obtain ⟨o4, _, g4, z4, d4⟩ := fl4.there
        have S4 := (J.landed (s' := { s' with heap := h4 }) nb fl4.1 (up13.trans up4) os ag).suite g4 d4 na nl nf
        refine wpAny_mono ((su e o4 k d (X.pn ++ pins) z4 ⟨_, d4⟩).run [] _ _ G' _ S4 (yes rfl e na)) (fun f s6 z => ?_) (fun _ _ z => z.elim)
        cases f with
        | ret v => obtain ⟨v6, u6, G6, S6, r6, q6⟩ := z; exact ⟨v6, u6, G6, S6.unsuite ok, r6, q6⟩
        | _ => obtain ⟨u6, G6, S6, q6⟩ := z; exact ⟨u6, G6, S6.unsuite ok, q6⟩
    | @named _ n c i _ _ _ _ p2 _ _ hN hi hl hc su r ih =>
      rintro ⟨y, ey, yes, no⟩
      refine wpAny_handleBy_cons (codeAny_handlers_test (name hc ((PySem.W.exm_one (M := model X.prog X.w) J3.kIn TY ey).here ?_))) (fun q => by cases q)
      cases y with
      | false => exact ih (no rfl)
      | true =>
        refine codeAny_handlers_suite_as (HandSPX.lands_againZ fl fun h4 fl4 up4 => ?_)
        obtain ⟨o4, _, g4, z4, d4⟩ := fl4.there
        have S4 := (J.landed (s' := { s' with heap := h4 }) nb fl4.1 (up13.trans up4) os ag).suite g4 d4 na nl nf
        refine store_ok (X := X.suite e ((e, o4) :: (X.pn ++ pins))) (v := .ref e) S4 hN hi (.inl hl) rfl (fun s5 S5 => wpAny_mono ((su e o4 k d (X.pn ++ pins) z4 ⟨_, d4⟩).run [] s5 _ G' _ S5 (yes rfl e na)) (fun f s6 z => ?_) (fun _ _ z => z.elim)) (.inr hl)
        have off : ∀ {u6 : L2.St} {G6 : Hp} {Q : Shared → Prop}, Inv (X.suite e ((e, o4) :: (X.pn ++ pins))) [] u6 G6 s6 → (∀ s7, Inv X pins (u6.set i none) G6 s7 → Q s7) → wpAny (model X.prog X.w) X.A (do bindName X.env n .none; unbindBehindTheSuite X.env n p2) (fun _ s7 => Q s7) X.xe s6 := fun S6 hq => gone_ok (S6.unsuite ok) hN hi hl hq
        cases f with
        | ret v => obtain ⟨v6, u6, G6, S6, r6, q6⟩ := z; exact off S6 fun s7 J7 => ⟨v6, _, G6, J7, r6, q6⟩
        | _ => obtain ⟨u6, G6, S6, q6⟩ := z; exact off S6 fun s7 J7 => ⟨_, G6, J7, q6⟩
  · cases f with
    | next => obtain ⟨u6, G6, J6, q6⟩ := z; exact wpAny_execs_nil ⟨u6, G6, J6.ofTry ok, q6⟩
    | ret v => obtain ⟨v6, u6, G6, J6, r6, q6⟩ := z; exact ⟨v6, u6, G6, J6.ofTry ok, r6, q6⟩
    | _ => obtain ⟨u6, G6, J6, q6⟩ := z; exact ⟨u6, G6, J6.ofTry ok, q6⟩
/-! ### isinstance of a caught error, of one class of several -/
def rIsEs (K : PySem.W.Frag) (k : Value) (d : Option Addr) (e : Addr) : List V → Hp → VK → Prop := fun xs H Q =>
  ∃ (D tp : Addr) (cs : List V) (us : List Value) (b : Bool), k = .ref D ∧ d = none ∧ ExcC K D ∧ xs = [.ref e, .ref tp] ∧ H tp = some (.tup cs) ∧ Paired ClsV cs us ∧ PySem.W.kitAny K (.ref D) us = some b ∧ Q (.bl b) H
theorem call_isEs {X : Cx} {K : PySem.W.Frag} {e : Addr} {oe : Obj} {k : Value} {d : Option Addr} {pn : List (Addr × Obj)} (hK : X.K = K) (hz : Zc k d oe) (hf : ∃ vs, oe.data = .fields vs) : CallR (X.suite e ((e, oe) :: pn)) (.builtin "isinstance") (rIsEs K k d e) := by
  subst hK
  intro pins s σ H xs us Q I r h
  obtain ⟨D, tp, cs, ws, b, rfl, rfl, C, rfl, hT, pr, ka, q⟩ := h
  obtain ⟨u1, u2, rfl, r1, r2⟩ := vals2 r
  cases r1
  cases (show u2 = Value.ref tp from r2)
  obtain ⟨_, its, rv, o, o1, o2, n, o3⟩ := (show ObjOk _ _ H s.heap tp (.tup cs) from I.hok tp _ hT)
  have eq := ClsV.all pr rv
  subst eq
  obtain ⟨oc, od, dt, sl⟩ := o
  simp only at o2 o3
  subst o2 o3
  obtain ⟨vs, hv⟩ := hf
  have there := (I.pin (e, oe) (List.mem_append.mpr (.inl List.mem_cons_self))).1
  have J : PySem.W.InstAt s.heap e oe D none := by
    obtain ⟨_, _, _, _⟩ := oe
    obtain ⟨z1, z2⟩ := hz
    dsimp only at z1 z2 hv
    subst z1 z2 hv
    exact ⟨there, rfl, rfl, trivial⟩
  exact PySem.W.kia_tup (PySem.W.handS_kitx_exc C.hg C.hk C.hs C.hd C.ha C.hn C.ht C.hm) I.kIn J o1 ka (fun z => nomatch z) fun tk => ⟨.bl b, H, I.kept (t' := tk) fun _ _ z => z, rfl, q⟩
/-! ### isinstance of a caught error, whatever its class -/
theorem call_isE2 {X : Cx} {K : PySem.W.Frag} {a : Addr} {oe : Obj} {cls : Value} {d : Option Addr} {pn : List (Addr × Obj)} (hK : X.K = K) (hz : Zc cls d oe) (hf : ∃ vs, oe.data = .fields vs) :
    CallR (X.suite a ((a, oe) :: pn)) (.builtin "isinstance") (fun xs H Q => ∃ D, cls = .ref D ∧ d = none ∧ ExcC K D ∧ rIsE K D a xs H Q) := by
  subst hK
  intro pins s σ H xs us Q I r h
  obtain ⟨D, rfl, rfl, C, h⟩ := h
  exact call_isE C hz hf pins s σ H xs us Q I r h
/-! ## the data layer: what stands in frozen parts of the heap as plain data, what is still written to as cells -/
inductive D where
  | non
  | bl (b : Bool)
  | int (i : Int)
  | str (x : Str)
  | tup (xs : List D)
  | lst (xs : List D)
  | scr (xs : List D)
  | obj (C : Addr) (ns : List Str) (ds : List D)
  | dic
  | ty (n : String)
  | cls (C : Addr)
mutual
/-- in the frozen heap G the value v is the data d -/
inductive Rep (K : PySem.W.Frag) (G : Hp) : D → V → Prop
  | non : Rep K G .non .non
  | bl (b : Bool) : Rep K G (.bl b) (.bl b)
  | int (i : Int) : Rep K G (.int i) (.int i)
  | str (x : Str) : Rep K G (.str x) (.str x)
  | tup {a : Addr} {vs : List V} {ds : List D} : SqT K G a vs → Reps K G ds vs → Rep K G (.tup ds) (.ref a)
  | lst {a : Addr} {vs : List V} {ds : List D} : G a = some (.lst vs) → Reps K G ds vs → Rep K G (.lst ds) (.ref a)
  | scr {a : Addr} {vs : List V} {ds : List D} : SqL K G a vs → Reps K G ds vs → Rep K G (.scr ds) (.ref a)
  | obj {a C dx : Addr} {ns : List Str} {vs : List V} {ds : List D} : G a = some (.ins C dx (ns.zip vs)) → ns.length = ds.length → Reps K G ds vs → Rep K G (.obj C ns ds) (.ref a)
  | dic {a : Addr} {kvs : List (Key × V)} : G a = some (.dK kvs) → Rep K G .dic (.ref a)
  | ty (n : String) : Rep K G (.ty n) (.ty n)
  | cls (C : Addr) : Rep K G (.cls C) (.ref C)
inductive Reps (K : PySem.W.Frag) (G : Hp) : List D → List V → Prop
  | nil : Reps K G [] []
  | cons {d : D} {ds : List D} {v : V} {vs : List V} : Rep K G d v → Reps K G ds vs → Reps K G (d :: ds) (v :: vs)
end
section
variable {K : PySem.W.Frag} {G G' H : Hp} {v : V} {vs : List V} {d : D} {ds : List D}
theorem Rep.nonE (h : Rep K G .non v) : v = .non := by cases h; rfl
theorem Rep.blE {b : Bool} (h : Rep K G (.bl b) v) : v = .bl b := by cases h; rfl
theorem Rep.intE {i : Int} (h : Rep K G (.int i) v) : v = .int i := by cases h; rfl
theorem Rep.strE {x : Str} (h : Rep K G (.str x) v) : v = .str x := by cases h; rfl
theorem Rep.tupE (h : Rep K G (.tup ds) v) : ∃ a vs, v = .ref a ∧ SqT K G a vs ∧ Reps K G ds vs := by cases h with | tup a b => exact ⟨_, _, rfl, a, b⟩
theorem Rep.lstE (h : Rep K G (.lst ds) v) : ∃ a vs, v = .ref a ∧ G a = some (.lst vs) ∧ Reps K G ds vs := by cases h with | lst a b => exact ⟨_, _, rfl, a, b⟩
theorem Rep.scrE (h : Rep K G (.scr ds) v) : ∃ a vs, v = .ref a ∧ SqL K G a vs ∧ Reps K G ds vs := by cases h with | scr a b => exact ⟨_, _, rfl, a, b⟩
theorem Rep.objE {C : Addr} {ns : List Str} (h : Rep K G (.obj C ns ds) v) : ∃ a dx vs, v = .ref a ∧ G a = some (.ins C dx (ns.zip vs)) ∧ ns.length = ds.length ∧ Reps K G ds vs := by cases h with | obj a b c => exact ⟨_, _, _, rfl, a, b, c⟩
theorem Rep.dicE (h : Rep K G .dic v) : ∃ a kvs, v = .ref a ∧ G a = some (.dK kvs) := by cases h with | dic a => exact ⟨_, _, rfl, a⟩
theorem Reps.nilE (h : Reps K G [] vs) : vs = [] := by cases h; rfl
theorem Reps.consE (h : Reps K G (d :: ds) vs) : ∃ v ws, vs = v :: ws ∧ Rep K G d v ∧ Reps K G ds ws := by cases h with | cons a b => exact ⟨_, _, rfl, a, b⟩
theorem Same.seqT {a : Addr} {xs : List V} (e : Same G G') (h : SqT K G a xs) : SqT K G' a xs := by
  rcases h with (h | ⟨o, h⟩) | h
  · exact .inl (.inl (e _ _ h))
  · exact .inl (.inr ⟨o, e _ _ h⟩)
  · exact .inr h
mutual
theorem Rep.mono (s : Same G G') : ∀ (d : D) (v : V), Rep K G d v → Rep K G' d v
  | .non, _, h => by cases h; exact .non
  | .bl _, _, h => by cases h; exact .bl _
  | .int _, _, h => by cases h; exact .int _
  | .str _, _, h => by cases h; exact .str _
  | .tup ds, _, h => by cases h with | tup a b => exact .tup (Same.seqT s a) (Reps.mono s ds _ b)
  | .lst ds, _, h => by cases h with | lst a b => exact .lst (s _ _ a) (Reps.mono s ds _ b)
  | .scr ds, _, h => by cases h with | scr a b => exact .scr (Same.seq s a) (Reps.mono s ds _ b)
  | .obj C ns ds, _, h => by cases h with | obj a b c => exact .obj (s _ _ a) b (Reps.mono s ds _ c)
  | .dic, _, h => by cases h with | dic a => exact .dic (s _ _ a)
  | .ty _, _, h => by cases h; exact .ty _
  | .cls _, _, h => by cases h; exact .cls _
theorem Reps.mono (s : Same G G') : ∀ (ds : List D) (vs : List V), Reps K G ds vs → Reps K G' ds vs
  | [], _, h => by cases h; exact .nil
  | d :: ds, _, h => by cases h with | cons a b => exact .cons (Rep.mono s d _ a) (Reps.mono s ds _ b)
end
theorem Reps.length : ∀ {ds : List D} {vs : List V}, Reps K G ds vs → vs.length = ds.length
  | [], _, h => by cases h; rfl
  | _ :: _, _, h => by cases h with | cons _ b => exact congrArg (· + 1) (Reps.length b)
theorem Reps.get : ∀ {ds : List D} {vs : List V} {i : Nat} {d : D}, Reps K G ds vs → ds[i]? = some d → ∃ v, vs[i]? = some v ∧ Rep K G d v
  | [], _, _, _, _, e => by simp at e
  | _ :: _, _, 0, _, h, e => by cases h with | cons a _ => simp at e; subst e; exact ⟨_, rfl, a⟩
  | _ :: _, _, i + 1, _, h, e => by
    cases h with
    | cons _ b =>
      obtain ⟨v, q, r⟩ := Reps.get (i := i) b (by simpa using e)
      exact ⟨v, by simpa using q, r⟩
theorem Reps.append : ∀ {ds es : List D} {vs ws : List V}, Reps K G ds vs → Reps K G es ws → Reps K G (ds ++ es) (vs ++ ws)
  | [], _, _, _, h, k => by cases h; exact k
  | _ :: _, _, _, _, h, k => by cases h with | cons a b => exact .cons a (b.append k)
theorem Reps.drop : ∀ {ds : List D} {vs : List V} (n : Nat), Reps K G ds vs → Reps K G (ds.drop n) (vs.drop n)
  | _, _, 0, h => h
  | [], _, _ + 1, h => by cases h; exact .nil
  | _ :: _, _, n + 1, h => by cases h with | cons _ b => exact Reps.drop n b
theorem Reps.take : ∀ {ds : List D} {vs : List V} (n : Nat), Reps K G ds vs → Reps K G (ds.take n) (vs.take n)
  | _, _, 0, _ => .nil
  | [], _, _ + 1, h => by cases h; exact .nil
  | _ :: _, _, n + 1, h => by cases h with | cons a b => exact .cons a (Reps.take n b)
theorem Reps.set {d : D} {v : V} (r : Rep K G d v) : ∀ {ds : List D} {vs : List V} (i : Nat), Reps K G ds vs → Reps K G (ds.set i d) (vs.set i v)
  | [], _, _, h => by cases h; exact .nil
  | _ :: _, _, 0, h => by cases h with | cons _ b => exact .cons r b
  | _ :: _, _, i + 1, h => by cases h with | cons a b => exact .cons a (Reps.set r i b)
theorem Reps.reverse {ds : List D} {vs : List V} (h : Reps K G ds vs) : Reps K G ds.reverse vs.reverse := by
  induction ds generalizing vs with
  | nil => cases h; exact .nil
  | cons d ds ih => cases h with | cons a b => rw [List.reverse_cons, List.reverse_cons]; exact (ih b).append (.cons a .nil)
theorem Reps.rep {ds : List D} {vs : List V} (h : Reps K G ds vs) : ∀ n : Nat, Reps K G (List.replicate n ds).flatten (List.replicate n vs).flatten
  | 0 => .nil
  | n + 1 => by rw [List.replicate_succ, List.replicate_succ, List.flatten_cons, List.flatten_cons]; exact h.append (Reps.rep h n)
theorem Reps.ofV {ns : List Int} : Reps K G (ns.map D.int) (ns.map V.int) := by
  induction ns with
  | nil => exact .nil
  | cons n ns ih => exact .cons (.int n) ih
end
/-! no list and no object within: it can't hold a list that is still written to -/
mutual
def hard : D → Bool
  | .tup ds => hards ds
  | .lst _ => false
  | .scr _ => false
  | .obj _ _ ds => hards ds
  | _ => true
def hards : List D → Bool
  | [] => true
  | d :: ds => hard d && hards ds
end
section
variable {K : PySem.W.Frag} {G G' : Hp}
theorem SqT.hard {a : Addr} {vs : List V} (s : ∀ a o, G a = some o → (G' a = some o) ∨ (∃ xs, o = .lst xs)) (h : SqT K G a vs) : SqT K G' a vs := by
  rcases h with (h | ⟨o, h⟩) | h
  · rcases s _ _ h with z | ⟨xs, z⟩
    · exact .inl (.inl z)
    · cases z
  · rcases s _ _ h with z | ⟨xs, z⟩
    · exact .inl (.inr ⟨o, z⟩)
    · cases z
  · exact .inr h
mutual
theorem Rep.hard (s : ∀ a o, G a = some o → (G' a = some o) ∨ (∃ xs, o = .lst xs)) : ∀ (d : D) (v : V), LK.hard d = true → Rep K G d v → Rep K G' d v
  | .non, _, _, h => by cases h; exact .non
  | .bl _, _, _, h => by cases h; exact .bl _
  | .int _, _, _, h => by cases h; exact .int _
  | .str _, _, _, h => by cases h; exact .str _
  | .tup ds, _, k, h => by cases h with | tup a b => exact .tup (SqT.hard s a) (Reps.hard s ds _ (by rw [LK.hard] at k; exact k) b)
  | .lst ds, _, k, h => by rw [LK.hard] at k; cases k
  | .scr ds, _, k, h => by rw [LK.hard] at k; cases k
  | .obj C ns ds, _, k, h => by
    cases h with
    | obj a b c =>
      rcases s _ _ a with z | ⟨xs, z⟩
      · exact .obj z b (Reps.hard s ds _ (by rw [LK.hard] at k; exact k) c)
      · cases z
  | .dic, _, k, h => by
    cases h with
    | dic a =>
      rcases s _ _ a with z | ⟨xs, z⟩
      · exact .dic z
      · cases z
  | .ty _, _, _, h => by cases h; exact .ty _
  | .cls _, _, _, h => by cases h; exact .cls _
theorem Reps.hard (s : ∀ a o, G a = some o → (G' a = some o) ∨ (∃ xs, o = .lst xs)) : ∀ (ds : List D) (vs : List V), hards ds = true → Reps K G ds vs → Reps K G' ds vs
  | [], _, _, h => by cases h; exact .nil
  | d :: ds, _, k, h => by
    cases h with
    | cons a b =>
      rw [hards, Bool.and_eq_true] at k
      exact .cons (Rep.hard s d _ k.1 a) (Reps.hard s ds _ k.2 b)
end
end
/-- what a slot holds: data, or a cell -/
inductive AV where
  | dat (d : D)
  | cel (j : Nat)
/-- what else may be written to: what is known of it, by the frozen heap -/
structure CellX where
  ok : Hp → Addr → HO → Prop
  mono : ∀ {G G' : Hp} (s : ∀ a o, G a = some o → (G' a = some o) ∨ (∃ xs, o = .lst xs)) {a : Addr} {o : HO}, ok G a o → ok G' a o
/-- what is still written to -/
inductive Cell where
  | oth (X : CellX)
  | gone
  | lst (ds : List D)
  | drw
  | ins (C : Addr) (ns : List Str) (ds : List D)
def IsSt (xs : List V) : Prop := (∃ x, xs = [.int x]) ∨ ∃ x y z, xs = [.int x, .int y, .int z]
structure En where
  sl : List (Option AV)
  ce : List Cell
/-- what stands ahead of the def's call, the data it was handed, what is wanted of its errors -/
structure Fx where
  Fr : Hp
  G0 : Hp
  E : XK
  ex : Addr → Prop
  hE : ∀ C H, ex C → Same Fr H → E (.ref C) none H
  fr : V → Prop
  as0 : List Addr
def RepA (K : PySem.W.Frag) (G : Hp) (as : List Addr) : AV → V → Prop
  | .dat d, v => Rep K G d v
  | .cel j, v => ∃ a, as[j]? = some a ∧ v = .ref a
def CellOk (K : PySem.W.Frag) (G H : Hp) (a : Addr) : Cell → Prop
  | .gone => True
  | .lst ds => G a = none ∧ ∃ vs, H a = some (.lst vs) ∧ Reps K G ds vs
  | .drw => G a = none ∧ ∃ xs, H a = some (.lst xs) ∧ IsSt xs
  | .oth X => G a = none ∧ ∃ o, H a = some o ∧ X.ok G a o
  | .ins C ns ds => G a = none ∧ ∃ dx vs, H a = some (.ins C dx (ns.zip vs)) ∧ ns.length = ds.length ∧ Reps K G ds vs
structure EnvOk (K : PySem.W.Frag) (F : Fx) (ρ : En) (as : List Addr) (σ : L2.St) (H G : Hp) : Prop where
  gh : Same G H
  fh : Same F.Fr H
  fg : ∀ a o, G a = some o → F.G0 a = some o ∨ F.Fr a = none
  g0 : Same F.G0 G
  nd : as.Nodup
  pr : F.as0 <+: as
  ln : as.length = ρ.ce.length
  ce : ∀ (j : Nat) (c : Cell) (a : Addr), ρ.ce[j]? = some c → as[j]? = some a → F.Fr a = none ∧ (∃ o, H a = some o) ∧ CellOk K G H a c
  sn : σ.length = ρ.sl.length
  sl : ∀ (i : Nat) (av : AV), ρ.sl[i]? = some (some av) → ∃ v, σ[i]? = some (some v) ∧ RepA K G as av v
/-- more is frozen, more cells -/
structure Gr (G : Hp) (as : List Addr) (G' : Hp) (as' : List Addr) : Prop where
  g : Same G G'
  a : ∃ r, as' = as ++ r
theorem Gr.refl {G : Hp} {as : List Addr} : Gr G as G as := ⟨Same.refl _, [], by simp⟩
theorem Gr.trans {G G1 G2 : Hp} {as as1 as2 : List Addr} (x : Gr G as G1 as1) (y : Gr G1 as1 G2 as2) : Gr G as G2 as2 := by
  obtain ⟨g, r, rfl⟩ := x
  obtain ⟨g2, r2, rfl⟩ := y
  exact ⟨Same.trans g g2, r ++ r2, by simp⟩
theorem RepA.mono {K : PySem.W.Frag} {G G' : Hp} {as as' : List Addr} (g : Gr G as G' as') : ∀ {av : AV} {v : V}, RepA K G as av v → RepA K G' as' av v
  | .dat d, v, h => Rep.mono g.g d v h
  | .cel j, v, ⟨a, e, q⟩ => by
    obtain ⟨_, r, rfl⟩ := g
    exact ⟨a, by rw [List.getElem?_append_left (List.getElem?_eq_some_iff.mp e).1]; exact e, q⟩
inductive RepAs (K : PySem.W.Frag) (G : Hp) (as : List Addr) : List AV → List V → Prop
  | nil : RepAs K G as [] []
  | cons {x : AV} {xs : List AV} {v : V} {vs : List V} : RepA K G as x v → RepAs K G as xs vs → RepAs K G as (x :: xs) (v :: vs)
theorem RepAs.mono {K : PySem.W.Frag} {G G' : Hp} {as as' : List Addr} (g : Gr G as G' as') {xs : List AV} {vs : List V} (h : RepAs K G as xs vs) : RepAs K G' as' xs vs := by
  induction h with
  | nil => exact .nil
  | cons a _ ih => exact .cons (a.mono g) ih
theorem RepAs.length {K : PySem.W.Frag} {G : Hp} {as : List Addr} {xs : List AV} {vs : List V} (h : RepAs K G as xs vs) : vs.length = xs.length := by
  induction h with
  | nil => rfl
  | cons _ _ ih => exact congrArg (· + 1) ih
theorem RepAs.append {K : PySem.W.Frag} {G : Hp} {as : List Addr} {xs ys : List AV} {vs ws : List V} (h : RepAs K G as xs vs) (k : RepAs K G as ys ws) : RepAs K G as (xs ++ ys) (vs ++ ws) := by
  induction h with
  | nil => exact k
  | cons a _ ih => exact .cons a ih
/-! ### the wishes, by data -/
structure KS where
  nx : En → Prop
  rt : AV → En → Prop
  bk : En → Prop := fun _ => False
  ct : En → Prop := fun _ => False
section
variable (K : PySem.W.Frag) (F : Fx)
/-- what is wanted of a value that has come -/
def Got (ρ : En) (as : List Addr) (σ : L2.St) (G : Hp) (k : AV → En → Prop) (Q : VK) : Prop := ∀ av ρ' v as' H' G', k av ρ' → EnvOk K F ρ' as' σ H' G' → Gr G as G' as' → RepA K G' as' av v → Q v H'
def WpE (t : TE) (ρ : En) (k : AV → En → Prop) : Prop := ∀ as σ H G, EnvOk K F ρ as σ H G → ∀ Q : VK, Got K F ρ as σ G k Q → t σ H Q
def WpT (t : TT) (ρ : En) (k : Bool → En → Prop) : Prop := ∀ as σ H G, EnvOk K F ρ as σ H G → ∀ Q : Bool → Hp → Prop, (∀ b ρ' as' H' G', k b ρ' → EnvOk K F ρ' as' σ H' G' → Gr G as G' as' → Q b H') → t σ H Q
def WpA (t : TA) (ρ : En) (k : List AV → En → Prop) : Prop := ∀ as σ H G, EnvOk K F ρ as σ H G → ∀ Q : List V → Hp → Prop, (∀ avs ρ' vs as' H' G', k avs ρ' → EnvOk K F ρ' as' σ H' G' → Gr G as G' as' → RepAs K G' as' avs vs → Q vs H') → t σ H Q
def WpR (r : R2) (x y : AV) (ρ : En) (k : AV → En → Prop) : Prop := ∀ as σ H G vx vy, EnvOk K F ρ as σ H G → RepA K G as x vx → RepA K G as y vy → ∀ Q : VK, Got K F ρ as σ G k Q → r vx vy H Q
def WpU (r : V → Hp → VK → Prop) (x : AV) (ρ : En) (k : AV → En → Prop) : Prop := ∀ as σ H G vx, EnvOk K F ρ as σ H G → RepA K G as x vx → ∀ Q : VK, Got K F ρ as σ G k Q → r vx H Q
def WpC (r : List V → Hp → VK → Prop) (xs : List AV) (ρ : En) (k : AV → En → Prop) : Prop := ∀ as σ H G vs, EnvOk K F ρ as σ H G → RepAs K G as xs vs → ∀ Q : VK, Got K F ρ as σ G k Q → r vs H Q
def WpM (r : V → List V → Hp → VK → Prop) (x : AV) (xs : List AV) (ρ : En) (k : AV → En → Prop) : Prop := ∀ as σ H G v vs, EnvOk K F ρ as σ H G → RepA K G as x v → RepAs K G as xs vs → ∀ Q : VK, Got K F ρ as σ G k Q → r v vs H Q
def WpSp (sp : Sp) (E : L2.St → XK) (xs : List AV) (ρ : En) (k : AV → En → Prop) : Prop := ∀ as σ H G vs, EnvOk K F ρ as σ H G → RepAs K G as xs vs → ∀ Q : VK, Got K F ρ as σ G k Q → sp vs H Q (E σ)
def WpG (g : TG) (x : AV) (ρ : En) (k : En → Prop) : Prop := ∀ as σ H G v, EnvOk K F ρ as σ H G → RepA K G as x v → ∀ Q : L2.St → Hp → Prop, (∀ ρ' as' σ' H' G', k ρ' → EnvOk K F ρ' as' σ' H' G' → Gr G as G' as' → Q σ' H') → g v σ H Q
def WpGs (g : TGs) (xs : List AV) (ρ : En) (k : En → Prop) : Prop := ∀ as σ H G vs, EnvOk K F ρ as σ H G → RepAs K G as xs vs → ∀ Q : L2.St → Hp → Prop, (∀ ρ' as' σ' H' G', k ρ' → EnvOk K F ρ' as' σ' H' G' → Gr G as G' as' → Q σ' H') → g vs σ H Q
/-- the ends of a statement, by data -/
structure EndsOk (as : List Addr) (G : Hp) (k : KS) (D : Ends) : Prop where
  nx : ∀ ρ as' σ H G', k.nx ρ → EnvOk K F ρ as' σ H G' → Gr G as G' as' → D.nx σ H
  rt : ∀ av ρ v as' σ H G', k.rt av ρ → EnvOk K F ρ as' σ H G' → Gr G as G' as' → RepA K G' as' av v → D.rt v H
  bk : ∀ ρ as' σ H G', k.bk ρ → EnvOk K F ρ as' σ H G' → Gr G as G' as' → D.bk σ H
  ct : ∀ ρ as' σ H G', k.ct ρ → EnvOk K F ρ as' σ H G' → Gr G as G' as' → D.ct σ H
  fr : ∀ v H, F.fr v → D.rt v H
theorem EndsOk.grow {as as1 : List Addr} {G G1 : Hp} {k : KS} {D : Ends} (q : EndsOk K F as G k D) (g : Gr G as G1 as1) : EndsOk K F as1 G1 k D :=
  ⟨fun ρ as' σ H G' a b c => q.nx ρ as' σ H G' a b (g.trans c), fun av ρ v as' σ H G' a b c d => q.rt av ρ v as' σ H G' a b (g.trans c) d, fun ρ as' σ H G' a b c => q.bk ρ as' σ H G' a b (g.trans c), fun ρ as' σ H G' a b c => q.ct ρ as' σ H G' a b (g.trans c), q.fr⟩
def WpS (t : TS) (ρ : En) (k : KS) : Prop := ∀ as σ H G, EnvOk K F ρ as σ H G → ∀ D : Ends, EndsOk K F as G k D → t D σ H
end
/-! ### rules of the data layer: expressions -/
section
variable {K : PySem.W.Frag} {F : Fx} {ρ : En} {k : AV → En → Prop} {kb : Bool → En → Prop} {ks : KS} {t u : TS} {ta tb te : TE} {tt tu : TT}
theorem Got.imp {as : List Addr} {σ : L2.St} {G : Hp} {ρ1 : En} {as1 : List Addr} {G1 : Hp} {k1 : AV → En → Prop} {Q : VK} (g : Got K F ρ as σ G k Q) (gr : Gr G as G1 as1) (h : ∀ av ρ', k1 av ρ' → k av ρ') : Got K F ρ1 as1 σ G1 k1 Q :=
  fun av ρ' v as' H' G' hk e gr' r => g av ρ' v as' H' G' (h _ _ hk) e (gr.trans gr') r
theorem WpE.imp {k' : AV → En → Prop} (h : WpE K F te ρ k) (i : ∀ av ρ', k av ρ' → k' av ρ') : WpE K F te ρ k' := fun as σ H G e Q q => h as σ H G e Q (q.imp .refl i)
theorem we_var {i : Nat} {av : AV} (h : ρ.sl[i]? = some (some av)) (hk : k av ρ) : WpE K F (tVar i) ρ k := fun as σ H G e Q q => by
  obtain ⟨v, hv, r⟩ := e.sl i av h
  exact ⟨v, hv, q av ρ v as H G hk e .refl r⟩
theorem we_ci {i : Int} (hk : k (.dat (.int i)) ρ) : WpE K F (tC (.int i)) ρ k := fun as σ H G e Q q => q _ ρ _ as H G hk e .refl (Rep.int i)
theorem we_cb {b : Bool} (hk : k (.dat (.bl b)) ρ) : WpE K F (tC (.bl b)) ρ k := fun as σ H G e Q q => q _ ρ _ as H G hk e .refl (Rep.bl b)
theorem we_cn (hk : k (.dat .non) ρ) : WpE K F (tC .non) ρ k := fun as σ H G e Q q => q _ ρ _ as H G hk e .refl Rep.non
theorem we_cs {x : Str} (hk : k (.dat (.str x)) ρ) : WpE K F (tC (.str x)) ρ k := fun as σ H G e Q q => q _ ρ _ as H G hk e .refl (Rep.str x)
theorem we_ct {n : String} (hk : k (.dat (.ty n)) ρ) : WpE K F (tC (.ty n)) ρ k := fun as σ H G e Q q => q _ ρ _ as H G hk e .refl (Rep.ty n)
/-- a constant of the module -/
theorem we_cr {a : Addr} {d : D} (h : ∀ G, Rep K G d (.ref a)) (hk : k (.dat d) ρ) : WpE K F (tC (.ref a)) ρ k := fun as σ H G e Q q => q _ ρ _ as H G hk e .refl (h G)
theorem we_op {r : R2} (h : WpE K F ta ρ fun x ρ1 => WpE K F tb ρ1 fun y ρ2 => WpR K F r x y ρ2 k) : WpE K F (tOp r ta tb) ρ k := fun as σ H G e Q q =>
  h as σ H G e _ fun x ρ1 vx as1 H1 G1 h1 e1 g1 r1 => h1 as1 σ H1 G1 e1 _ fun y ρ2 vy as2 H2 G2 h2 e2 g2 r2 => h2 as2 σ H2 G2 vx vy e2 (r1.mono g2) r2 Q (q.imp (g1.trans g2) fun _ _ z => z)
theorem we_un {r : V → Hp → VK → Prop} (h : WpE K F ta ρ fun x ρ1 => WpU K F r x ρ1 k) : WpE K F (tUn r ta) ρ k := fun as σ H G e Q q =>
  h as σ H G e _ fun x ρ1 vx as1 H1 G1 h1 e1 g1 r1 => h1 as1 σ H1 G1 vx e1 r1 Q (q.imp g1 fun _ _ z => z)
theorem we_tCB {r : List V → Hp → VK → Prop} {t : TA} (h : WpA K F t ρ fun xs ρ1 => WpC K F r xs ρ1 k) : WpE K F (tCB r t) ρ k := fun as σ H G e Q q =>
  h as σ H G e _ fun xs ρ1 vs as1 H1 G1 h1 e1 g1 r1 => h1 as1 σ H1 G1 vs e1 r1 Q (q.imp g1 fun _ _ z => z)
theorem wa_nil {k : List AV → En → Prop} (hk : k [] ρ) : WpA K F tNil ρ k := fun as σ H G e Q q => q [] ρ [] as H G hk e .refl .nil
theorem wa_cons {k : List AV → En → Prop} {tr : TA} (h : WpE K F ta ρ fun x ρ1 => WpA K F tr ρ1 fun xs ρ2 => k (x :: xs) ρ2) : WpA K F (tCons ta tr) ρ k := fun as σ H G e Q q =>
  h as σ H G e _ fun x ρ1 vx as1 H1 G1 h1 e1 g1 r1 => h1 as1 σ H1 G1 e1 _ fun xs ρ2 vs as2 H2 G2 h2 e2 g2 r2 => q _ ρ2 _ as2 H2 G2 h2 e2 (g1.trans g2) (.cons (r1.mono g2) r2)
theorem wr_I0i {f : Int → Int → Int} {i j : Int} (hk : k (.dat (.int (f i j))) ρ) : WpR K F (rI0 fun i j => .int (f i j)) (.dat (.int i)) (.dat (.int j)) ρ k := fun as σ H G vx vy e r1 r2 Q q => by
  cases (show Rep K G (.int i) vx from r1); cases (show Rep K G (.int j) vy from r2)
  exact ⟨i, j, rfl, rfl, q _ ρ _ as H G hk e .refl (Rep.int _)⟩
theorem wr_I0b {f : Int → Int → Bool} {i j : Int} (hk : k (.dat (.bl (f i j))) ρ) : WpR K F (rI0 fun i j => .bl (f i j)) (.dat (.int i)) (.dat (.int j)) ρ k := fun as σ H G vx vy e r1 r2 Q q => by
  cases (show Rep K G (.int i) vx from r1); cases (show Rep K G (.int j) vy from r2)
  exact ⟨i, j, rfl, rfl, q _ ρ _ as H G hk e .refl (Rep.bl _)⟩
theorem wr_Ii {C : Int → Int → Prop} {f : Int → Int → Int} {i j : Int} (hc : C i j) (hk : k (.dat (.int (f i j))) ρ) : WpR K F (rI C fun i j => .int (f i j)) (.dat (.int i)) (.dat (.int j)) ρ k := fun as σ H G vx vy e r1 r2 Q q => by
  cases (show Rep K G (.int i) vx from r1); cases (show Rep K G (.int j) vy from r2)
  exact ⟨i, j, rfl, rfl, hc, q _ ρ _ as H G hk e .refl (Rep.int _)⟩
theorem wu_neg {i : Int} (hk : k (.dat (.int (-i))) ρ) : WpU K F (rU fun i => .int (-i)) (.dat (.int i)) ρ k := fun as σ H G vx e r1 Q q => by
  cases (show Rep K G (.int i) vx from r1)
  exact ⟨i, rfl, q _ ρ _ as H G hk e .refl (Rep.int _)⟩
theorem wc_abs {i : Int} (hk : k (.dat (.int (if i < 0 then -i else i))) ρ) : WpC K F (fun xs H Q => ∃ i, xs = [.int i] ∧ Q (.int (if i < 0 then -i else i)) H) [.dat (.int i)] ρ k := fun as σ H G vs e r Q q => by
  cases r with
  | cons a b =>
    cases b
    cases (show Rep K G (.int i) _ from a)
    exact ⟨i, rfl, q _ ρ _ as H G hk e .refl (Rep.int _)⟩
/-- == of scalars -/
def scalD : D → D → Bool
  | .non, .non => true | .non, .int _ => true | .int _, .non => true | .non, .bl _ => true | .bl _, .non => true | .non, .str _ => true | .str _, .non => true
  | .int _, .int _ => true | .bl _, .bl _ => true | .str _, .str _ => true | .int _, .str _ => true | .str _, .int _ => true | .bl _, .str _ => true | .str _, .bl _ => true
  | _, _ => false
def eqS : D → D → Bool
  | .non, .non => true
  | .int i, .int j => decide (i = j)
  | .bl a, .bl b => decide (a = b)
  | .str x, .str y => decide (x = y)
  | _, _ => false
theorem scal_rep {G : Hp} {d e : D} {v w : V} (h : scalD d e = true) (r1 : Rep K G d v) (r2 : Rep K G e w) : scal v w = true ∧ decide (v = w) = eqS d e := by
  cases d <;> cases e <;> first
    | (exact Bool.noConfusion (show false = true from h))
    | (cases r1; cases r2; refine ⟨rfl, ?_⟩; first | rfl | (simp [eqS]) | (exact decide_eq_false (fun z => nomatch z)))
theorem wr_eq {d e : D} (h : scalD d e = true) (hk : k (.dat (.bl (eqS d e))) ρ) : WpR K F rEq (.dat d) (.dat e) ρ k := fun as σ H G vx vy en r1 r2 Q q => by
  obtain ⟨a, b⟩ := scal_rep (K := K) (G := G) h r1 r2
  refine ⟨a, ?_⟩
  rw [b]
  exact q _ ρ _ as H G hk en .refl (Rep.bl _)
theorem wr_ne {d e : D} (h : scalD d e = true) (hk : k (.dat (.bl (!eqS d e))) ρ) : WpR K F rNe (.dat d) (.dat e) ρ k := fun as σ H G vx vy en r1 r2 Q q => by
  obtain ⟨a, b⟩ := scal_rep (K := K) (G := G) h r1 r2
  refine ⟨a, ?_⟩
  rw [b]
  exact q _ ρ _ as H G hk en .refl (Rep.bl _)
def isNon : AV → Bool
  | .dat .non => true
  | _ => false
theorem isNon_rep {G : Hp} {as : List Addr} {x : AV} {v : V} (r : RepA K G as x v) : decide (v = .non) = isNon x := by
  cases x with
  | cel j => obtain ⟨a, _, rfl⟩ := r; rfl
  | dat d => cases d <;> cases (show Rep K G _ v from r) <;> rfl
theorem wr_isN {x : AV} (hk : k (.dat (.bl (isNon x))) ρ) : WpR K F (fun x y H Q => y = .non ∧ Q (.bl (decide (x = .non))) H) x (.dat .non) ρ k := fun as σ H G vx vy en r1 r2 Q q => by
  refine ⟨Rep.nonE r2, ?_⟩
  rw [isNon_rep r1]
  exact q _ ρ _ as H G hk en .refl (Rep.bl _)
theorem wr_notN {x : AV} (hk : k (.dat (.bl (!isNon x))) ρ) : WpR K F (fun x y H Q => y = .non ∧ Q (.bl (!decide (x = .non))) H) x (.dat .non) ρ k := fun as σ H G vx vy en r1 r2 Q q => by
  refine ⟨Rep.nonE r2, ?_⟩
  rw [isNon_rep r1]
  exact q _ ρ _ as H G hk en .refl (Rep.bl _)
theorem wr_isB {a b : Bool} (hk : k (.dat (.bl (decide (a = b)))) ρ) : WpR K F (fun x y H Q => ∃ a b, x = .bl a ∧ y = .bl b ∧ Q (.bl (decide (a = b))) H) (.dat (.bl a)) (.dat (.bl b)) ρ k := fun as σ H G vx vy en r1 r2 Q q =>
  ⟨a, b, Rep.blE r1, Rep.blE r2, q _ ρ _ as H G hk en .refl (Rep.bl _)⟩
theorem wr_isnotB {a b : Bool} (hk : k (.dat (.bl (!decide (a = b)))) ρ) : WpR K F (fun x y H Q => ∃ a b, x = .bl a ∧ y = .bl b ∧ Q (.bl (!decide (a = b))) H) (.dat (.bl a)) (.dat (.bl b)) ρ k := fun as σ H G vx vy en r1 r2 Q q =>
  ⟨a, b, Rep.blE r1, Rep.blE r2, q _ ρ _ as H G hk en .refl (Rep.bl _)⟩
/-! truth -/
theorem we_andV (h : WpE K F ta ρ fun x ρ1 => ∃ c, x = .dat (.bl c) ∧ if c = true then WpE K F tb ρ1 k else k (.dat (.bl false)) ρ1) : WpE K F (tAndV ta tb) ρ k := fun as σ H G e Q q =>
  h as σ H G e _ fun x ρ1 vx as1 H1 G1 ⟨c, ex, hc⟩ e1 g1 r1 => by
    subst ex
    refine ⟨c, Rep.blE r1, ?_⟩
    cases c with
    | true => exact (show WpE K F tb ρ1 k from hc) as1 σ H1 G1 e1 Q (q.imp g1 fun _ _ z => z)
    | false => exact q _ ρ1 _ as1 H1 G1 hc e1 g1 (Rep.bl _)
theorem we_orV (h : WpE K F ta ρ fun x ρ1 => ∃ c, x = .dat (.bl c) ∧ if c = true then k (.dat (.bl true)) ρ1 else WpE K F tb ρ1 k) : WpE K F (tOrV ta tb) ρ k := fun as σ H G e Q q =>
  h as σ H G e _ fun x ρ1 vx as1 H1 G1 ⟨c, ex, hc⟩ e1 g1 r1 => by
    subst ex
    refine ⟨c, Rep.blE r1, ?_⟩
    cases c with
    | false => exact (show WpE K F tb ρ1 k from hc) as1 σ H1 G1 e1 Q (q.imp g1 fun _ _ z => z)
    | true => exact q _ ρ1 _ as1 H1 G1 hc e1 g1 (Rep.bl _)
theorem we_notV (h : WpE K F ta ρ fun x ρ1 => ∃ c, x = .dat (.bl c) ∧ k (.dat (.bl (!c))) ρ1) : WpE K F (tNotV ta) ρ k := fun as σ H G e Q q =>
  h as σ H G e _ fun x ρ1 vx as1 H1 G1 ⟨c, ex, hc⟩ e1 g1 r1 => by
    subst ex
    exact ⟨c, Rep.blE r1, q _ ρ1 _ as1 H1 G1 hc e1 g1 (Rep.bl _)⟩
theorem we_if (h : WpT K F tt ρ fun b ρ1 => if b = true then WpE K F ta ρ1 k else WpE K F tb ρ1 k) : WpE K F (tIf tt ta tb) ρ k := fun as σ H G e Q q =>
  h as σ H G e _ fun b ρ1 as1 H1 G1 hb e1 g1 => by
    cases b with
    | true => exact (show WpE K F ta ρ1 k from hb) as1 σ H1 G1 e1 Q (q.imp g1 fun _ _ z => z)
    | false => exact (show WpE K F tb ρ1 k from hb) as1 σ H1 G1 e1 Q (q.imp g1 fun _ _ z => z)
theorem wt_test (h : WpE K F te ρ fun x ρ1 => ∃ b, x = .dat (.bl b) ∧ kb b ρ1) : WpT K F (tTest te) ρ kb := fun as σ H G e Q q =>
  h as σ H G e _ fun x ρ1 vx as1 H1 G1 ⟨c, ex, hc⟩ e1 g1 r1 => by
    subst ex
    exact ⟨c, Rep.blE r1, q _ ρ1 as1 H1 G1 hc e1 g1⟩
theorem wt_B (h : WpE K F te ρ fun x ρ1 => ∃ b, x = .dat (.bl b) ∧ kb b ρ1) : WpT K F (tB te) ρ kb := wt_test h
theorem wt_and (h : WpT K F tt ρ fun b ρ1 => if b = true then WpT K F tu ρ1 kb else kb false ρ1) : WpT K F (tAnd tt tu) ρ kb := fun as σ H G e Q q =>
  h as σ H G e _ fun b ρ1 as1 H1 G1 hb e1 g1 => by
    cases b with
    | true => exact (show WpT K F tu ρ1 kb from hb) as1 σ H1 G1 e1 Q fun b2 ρ2 as2 H2 G2 h2 e2 g2 => q _ _ _ _ _ h2 e2 (g1.trans g2)
    | false => exact q _ _ _ _ _ hb e1 g1
theorem wt_or (h : WpT K F tt ρ fun b ρ1 => if b = true then kb true ρ1 else WpT K F tu ρ1 kb) : WpT K F (tOr tt tu) ρ kb := fun as σ H G e Q q =>
  h as σ H G e _ fun b ρ1 as1 H1 G1 hb e1 g1 => by
    cases b with
    | false => exact (show WpT K F tu ρ1 kb from hb) as1 σ H1 G1 e1 Q fun b2 ρ2 as2 H2 G2 h2 e2 g2 => q _ _ _ _ _ h2 e2 (g1.trans g2)
    | true => exact q _ _ _ _ _ hb e1 g1
theorem wt_not (h : WpT K F tt ρ fun b ρ1 => kb (!b) ρ1) : WpT K F (tNot tt) ρ kb := fun as σ H G e Q q => h as σ H G e _ fun b ρ1 as1 H1 G1 hb e1 g1 => q _ _ _ _ _ hb e1 g1
theorem wt_yes (h : kb true ρ) : WpT K F tYes ρ kb := fun as σ H G e Q q => q _ _ _ _ _ h e .refl
/-! ### statements -/
theorem ws_seq (h : WpS K F t ρ { ks with nx := fun ρ1 => WpS K F u ρ1 ks }) : WpS K F (tSeq t u) ρ ks := fun as σ H G e D q =>
  h as σ H G e { D with nx := u D } ⟨fun ρ1 as1 σ1 H1 G1 k1 e1 g1 => k1 as1 σ1 H1 G1 e1 D (EndsOk.grow K F q g1), q.rt, q.bk, q.ct, q.fr⟩
theorem ws_next (h : ks.nx ρ) : WpS K F tNext ρ ks := fun as σ H G e D q => q.nx ρ as σ H G h e .refl
theorem ws_break (h : ks.bk ρ) : WpS K F tBreak ρ ks := fun as σ H G e D q => q.bk ρ as σ H G h e .refl
theorem ws_cont (h : ks.ct ρ) : WpS K F tCont ρ ks := fun as σ H G e D q => q.ct ρ as σ H G h e .refl
theorem ws_drop (h : WpE K F te ρ fun _ ρ1 => ks.nx ρ1) : WpS K F (tDrop te) ρ ks := fun as σ H G e D q => h as σ H G e _ fun x ρ1 vx as1 H1 G1 h1 e1 g1 r1 => q.nx ρ1 as1 σ H1 G1 h1 e1 g1
theorem ws_ret (h : WpE K F te ρ ks.rt) : WpS K F (tRet te) ρ ks := fun as σ H G e D q => h as σ H G e _ fun x ρ1 vx as1 H1 G1 h1 e1 g1 r1 => q.rt x ρ1 vx as1 σ H1 G1 h1 e1 g1 r1
theorem ws_retN (h : ks.rt (.dat .non) ρ) : WpS K F tRetN ρ ks := fun as σ H G e D q => q.rt _ ρ _ as σ H G h e .refl Rep.non
theorem ws_if (h : WpT K F tt ρ fun b ρ1 => if b = true then WpS K F t ρ1 ks else WpS K F u ρ1 ks) : WpS K F (tIfS tt t u) ρ ks := fun as σ H G e D q =>
  h as σ H G e _ fun b ρ1 as1 H1 G1 hb e1 g1 => by
    cases b with
    | true => exact (show WpS K F t ρ1 ks from hb) as1 σ H1 G1 e1 D (EndsOk.grow K F q g1)
    | false => exact (show WpS K F u ρ1 ks from hb) as1 σ H1 G1 e1 D (EndsOk.grow K F q g1)
theorem ws_asg {g : TG} (h : WpE K F te ρ fun x ρ1 => WpG K F g x ρ1 ks.nx) : WpS K F (tAsg te g) ρ ks := fun as σ H G e D q =>
  h as σ H G e _ fun x ρ1 vx as1 H1 G1 h1 e1 g1 r1 => h1 as1 σ H1 G1 vx e1 r1 _ fun ρ2 as2 σ2 H2 G2 h2 e2 g2 => q.nx ρ2 as2 σ2 H2 G2 h2 e2 (g1.trans g2)
def En.put (ρ : En) (i : Nat) (x : AV) : En := ⟨ρ.sl.set i (some x), ρ.ce⟩
theorem EnvOk.put {as : List Addr} {σ : L2.St} {H G : Hp} {i : Nat} {x : AV} {v : V} (e : EnvOk K F ρ as σ H G) (r : RepA K G as x v) : EnvOk K F (ρ.put i x) as (σ.set i (some v)) H G :=
  ⟨e.gh, e.fh, e.fg, e.g0, e.nd, e.pr, e.ln, e.ce, by rw [List.length_set, e.sn]; exact (List.length_set).symm, fun j av hj => by
    show ∃ v', (σ.set i (some v))[j]? = some (some v') ∧ _
    have hj' : (ρ.sl.set i (some x))[j]? = some (some av) := hj
    by_cases hij : i = j
    · subst hij
      rw [List.getElem?_set] at hj' ⊢
      have hl : i < ρ.sl.length := by
        rcases Nat.lt_or_ge i ρ.sl.length with z | z
        · exact z
        · simp at hj'
          exact hj'.1
      simp [hl] at hj'
      subst hj'
      have hl2 : i < σ.length := by rw [e.sn]; exact hl
      exact ⟨v, by simp [hl2], r⟩
    · rw [List.getElem?_set_ne hij] at hj' ⊢
      exact e.sl j av hj'⟩
theorem wg_name {i : Nat} {x : AV} {kn : En → Prop} (h : kn (ρ.put i x)) : WpG K F (gName i) x ρ kn := fun as σ H G v e r Q q => q _ as _ H G h (e.put r) .refl
theorem wgs_nil {kn : En → Prop} (h : kn ρ) : WpGs K F gNil [] ρ kn := fun as σ H G vs e r Q q => by cases r; exact ⟨rfl, q _ _ _ _ _ h e .refl⟩
theorem wgs_cons {g : TG} {gs : TGs} {x : AV} {xs : List AV} {kn : En → Prop} (h : WpG K F g x ρ fun ρ1 => WpGs K F gs xs ρ1 kn) : WpGs K F (gCons g gs) (x :: xs) ρ kn := fun as σ H G vs e r Q q => by
  cases r with
  | cons a b => exact ⟨_, _, rfl, h as σ H G _ e a _ fun ρ1 as1 σ1 H1 G1 h1 e1 g1 => h1 as1 σ1 H1 G1 _ e1 (b.mono g1) Q fun ρ2 as2 σ2 H2 G2 h2 e2 g2 => q _ _ _ _ _ h2 e2 (g1.trans g2)⟩
theorem Reps.as {G : Hp} {as : List Addr} : ∀ {ds : List D} {vs : List V}, Reps K G ds vs → RepAs K G as (ds.map .dat) vs
  | [], _, h => by cases h; exact .nil
  | _ :: _, _, h => by cases h with | cons a b => exact .cons a (Reps.as b)
theorem wg_tup {n : Nat} {gs : TGs} {ds : List D} {kn : En → Prop} (hn : ds.length = n) (h : WpGs K F gs (ds.map .dat) ρ kn) : WpG K F (gTup K n gs) (.dat (.tup ds)) ρ kn := fun as σ H G v e r Q q => by
  obtain ⟨a, vs, rfl, hs, hr⟩ := Rep.tupE r
  exact ⟨a, vs, rfl, Same.seqT e.gh hs, by rw [hr.length]; exact hn, h as σ H G vs e hr.as Q q⟩
theorem ws_par {i j : Nat} {ta : TA} (h : WpA K F ta ρ fun xs ρ1 => ∃ x y, xs = [x, y] ∧ ks.nx ((ρ1.put i x).put j y)) : WpS K F (tPar i j ta) ρ ks := fun as σ H G e D q =>
  h as σ H G e _ fun xs ρ1 vs as1 H1 G1 ⟨x, y, ex, h1⟩ e1 g1 r1 => by
    subst ex
    cases r1 with
    | cons a b => cases b with | cons b c => cases c; exact ⟨_, _, rfl, q.nx _ as1 _ H1 G1 h1 ((e1.put a).put b) g1⟩
/-! ### lists and tuples -/
/-- the items of a list: data, or a cell -/
inductive IsL (ρ : En) : AV → List D → Prop
  | dat (ds : List D) : IsL ρ (.dat (.lst ds)) ds
  | scr (ds : List D) : IsL ρ (.dat (.scr ds)) ds
  | cel {j : Nat} {ds : List D} : ρ.ce[j]? = some (.lst ds) → IsL ρ (.cel j) ds
theorem IsL.rep {as : List Addr} {σ : L2.St} {H G : Hp} {x : AV} {ds : List D} {v : V} (e : EnvOk K F ρ as σ H G) (h : IsL ρ x ds) (r : RepA K G as x v) : ∃ a vs, v = .ref a ∧ SqL K H a vs ∧ Reps K G ds vs := by
  cases h with
  | dat => obtain ⟨a, vs, rfl, hs, hr⟩ := Rep.lstE r; exact ⟨a, vs, rfl, SqL.of (e.gh _ _ hs), hr⟩
  | scr => obtain ⟨a, vs, rfl, hs, hr⟩ := Rep.scrE r; exact ⟨a, vs, rfl, Same.seq e.gh hs, hr⟩
  | cel hc =>
    obtain ⟨a, ha, rfl⟩ := r
    obtain ⟨_, _, _, vs, hv, hr⟩ := e.ce _ _ a hc ha
    exact ⟨a, vs, rfl, SqL.of hv, hr⟩
theorem atI_reps {G : Hp} {ds : List D} {vs : List V} {i : Int} {d : D} (h : Reps K G ds vs) (e : atI ds i = some d) : ∃ v, atI vs i = some v ∧ Rep K G d v := by
  unfold atI at *
  rw [h.length]
  cases q : ixN ds.length i with
  | none => rw [q] at e; cases e
  | some j =>
    rw [q] at e
    exact h.get e
theorem wr_ixL {x : AV} {ds : List D} {i : Int} {d : D} (hx : IsL ρ x ds) (hi : atI ds i = some d) (hk : k (.dat d) ρ) : WpR K F (rIxL K) x (.dat (.int i)) ρ k := fun as σ H G vx vy e r1 r2 Q q => by
  obtain ⟨a, vs, rfl, hs, hr⟩ := hx.rep e r1
  obtain ⟨v, hv, r⟩ := atI_reps hr hi
  exact ⟨a, vs, i, v, rfl, Rep.intE r2, hs, hv, q _ ρ _ as H G hk e .refl r⟩
theorem wr_ixT {ds : List D} {i : Int} {d : D} (hi : atI ds i = some d) (hk : k (.dat d) ρ) : WpR K F (rIxT K) (.dat (.tup ds)) (.dat (.int i)) ρ k := fun as σ H G vx vy e r1 r2 Q q => by
  obtain ⟨a, vs, rfl, hs, hr⟩ := Rep.tupE r1
  obtain ⟨v, hv, r⟩ := atI_reps hr hi
  exact ⟨a, vs, i, v, rfl, Rep.intE r2, Same.seqT e.gh hs, hv, q _ ρ _ as H G hk e .refl r⟩
theorem wc_lenL {x : AV} {ds : List D} (hx : IsL ρ x ds) (hk : k (.dat (.int ds.length)) ρ) : WpC K F (fun xs H Q => ∃ p ys, xs = [.ref p] ∧ (SqL K H p ys ∨ SqT K H p ys) ∧ Q (.int ys.length) H) [x] ρ k := fun as σ H G vs e r Q q => by
  cases r with
  | cons r c =>
    cases c
    obtain ⟨a, vs, rfl, hs, hr⟩ := hx.rep e r
    refine ⟨a, vs, rfl, .inl hs, ?_⟩
    rw [hr.length]
    exact q _ ρ _ as H G hk e .refl (Rep.int _)
theorem wc_lenT {ds : List D} (hk : k (.dat (.int ds.length)) ρ) : WpC K F (fun xs H Q => ∃ p ys, xs = [.ref p] ∧ (SqL K H p ys ∨ SqT K H p ys) ∧ Q (.int ys.length) H) [.dat (.tup ds)] ρ k := fun as σ H G vs e r Q q => by
  cases r with
  | cons r c =>
    cases c
    obtain ⟨a, vs, rfl, hs, hr⟩ := Rep.tupE r
    refine ⟨a, vs, rfl, .inr (Same.seqT e.gh hs), ?_⟩
    rw [hr.length]
    exact q _ ρ _ as H G hk e .refl (Rep.int _)
/-! new things -/
/-- a new frozen object -/
theorem EnvOk.newG {as : List Addr} {σ : L2.St} {H G : Hp} {p : Addr} {o : HO} (e : EnvOk K F ρ as σ H G) (hp : H p = none) : EnvOk K F ρ as σ (upd H p o) (upd G p o) ∧ Gr G as (upd G p o) as := by
  have gp : G p = none := Same.none e.gh hp
  have fp : F.Fr p = none := Same.none e.fh hp
  have sg : Same G (upd G p o) := Same.new (Same.refl _) gp
  refine ⟨⟨fun a u h => ?_, Same.new e.fh hp, fun a u h => ?_, Same.trans e.g0 sg, e.nd, e.pr, e.ln, fun j c a hc ha => ?_, e.sn, fun i av hi => ?_⟩, ⟨sg, [], by simp⟩⟩
  · by_cases q : a = p
    · subst q; rw [upd_same] at h ⊢; exact h
    · rw [upd_ne q] at h ⊢; exact e.gh _ _ h
  · by_cases q : a = p
    · subst q; exact .inr fp
    · rw [upd_ne q] at h; exact e.fg _ _ h
  · obtain ⟨f, ⟨u, hu⟩, ok⟩ := e.ce j c a hc ha
    have na : a ≠ p := ne_of_none hu hp
    refine ⟨f, ⟨u, upd_old hp hu⟩, ?_⟩
    cases c with
    | gone => trivial
    | lst ds => obtain ⟨g, vs, h, r⟩ := ok; exact ⟨by rw [upd_ne na]; exact g, vs, upd_old hp h, Reps.mono sg _ _ r⟩
    | ins C9 ns9 ds => obtain ⟨g, dx9, vs, h, ln9, r⟩ := ok; exact ⟨by rw [upd_ne na]; exact g, dx9, vs, upd_old hp h, ln9, Reps.mono sg _ _ r⟩
    | drw => obtain ⟨g, vs, h, r⟩ := ok; exact ⟨by rw [upd_ne na]; exact g, vs, upd_old hp h, r⟩
    | oth X => obtain ⟨g, o9, h, r⟩ := ok; exact ⟨by rw [upd_ne na]; exact g, o9, upd_old hp h, X.mono (fun _ _ z => .inl (sg _ _ z)) r⟩
  · obtain ⟨v, hv, r⟩ := e.sl i av hi
    exact ⟨v, hv, r.mono ⟨sg, [], by simp⟩⟩
/-- a new cell -/
theorem EnvOk.newO {as : List Addr} {σ : L2.St} {H G : Hp} {p : Addr} {o : HO} {c0 : Cell} (e : EnvOk K F ρ as σ H G) (hp : H p = none) (ok0 : G p = none → CellOk K G (upd H p o) p c0) : EnvOk K F ⟨ρ.sl, ρ.ce ++ [c0]⟩ (as ++ [p]) σ (upd H p o) G ∧ Gr G as G (as ++ [p]) := by
  have gp : G p = none := Same.none e.gh hp
  have fp : F.Fr p = none := Same.none e.fh hp
  have gr : Gr G as G (as ++ [p]) := ⟨Same.refl _, [p], rfl⟩
  refine ⟨⟨fun a u h => upd_old hp (e.gh _ _ h), Same.new e.fh hp, e.fg, e.g0, ?_, e.pr.trans (List.prefix_append _ _), by rw [List.length_append, List.length_append, e.ln]; rfl, fun j c a hc ha => ?_, e.sn, fun i av hi => ?_⟩, gr⟩
  · rw [List.nodup_append]
    refine ⟨e.nd, by simp, fun a ha b hb => ?_⟩
    rw [List.mem_singleton] at hb
    subst hb
    obtain ⟨j, hj⟩ := List.getElem?_of_mem ha
    have hl : j < ρ.ce.length := by rw [← e.ln]; exact (List.getElem?_eq_some_iff.mp hj).1
    obtain ⟨_, ⟨u, hu⟩, _⟩ := e.ce j _ a (List.getElem?_eq_getElem hl) hj
    exact ne_of_none hu hp
  · by_cases hj : j < ρ.ce.length
    · rw [List.getElem?_append_left hj] at hc
      rw [List.getElem?_append_left (by rw [e.ln]; exact hj)] at ha
      obtain ⟨f, ⟨u, hu⟩, ok⟩ := e.ce j c a hc ha
      refine ⟨f, ⟨u, upd_old hp hu⟩, ?_⟩
      cases c with
      | gone => trivial
      | lst ds => obtain ⟨g, vs, h, r⟩ := ok; exact ⟨g, vs, upd_old hp h, r⟩
      | ins C9 ns9 ds => obtain ⟨g, dx9, vs, h, ln9, r⟩ := ok; exact ⟨g, dx9, vs, upd_old hp h, ln9, r⟩
      | drw => obtain ⟨g, vs, h, r⟩ := ok; exact ⟨g, vs, upd_old hp h, r⟩
      | oth X => obtain ⟨g, o9, h, r⟩ := ok; exact ⟨g, o9, upd_old hp h, r⟩
    · have hj2 : ρ.ce.length ≤ j := by omega
      rw [List.getElem?_append_right hj2] at hc
      rw [List.getElem?_append_right (by rw [e.ln]; exact hj2), e.ln] at ha
      cases z : j - ρ.ce.length with
      | zero =>
        rw [z] at hc ha
        cases hc
        cases ha
        exact ⟨fp, ⟨_, upd_same⟩, ok0 gp⟩
      | succ m => rw [z] at hc; simp at hc
  · obtain ⟨v, hv, r⟩ := e.sl i av hi
    exact ⟨v, hv, r.mono gr⟩
theorem EnvOk.newC {as : List Addr} {σ : L2.St} {H G : Hp} {p : Addr} {vs : List V} {ds : List D} (e : EnvOk K F ρ as σ H G) (hp : H p = none) (hr : Reps K G ds vs) : EnvOk K F ⟨ρ.sl, ρ.ce ++ [.lst ds]⟩ (as ++ [p]) σ (upd H p (.lst vs)) G ∧ Gr G as G (as ++ [p]) := e.newO hp fun gp => ⟨gp, vs, upd_same, hr⟩
/-- a cell is written -/
theorem EnvOk.setO {as : List Addr} {σ : L2.St} {H G : Hp} {j : Nat} {a : Addr} {c c' : Cell} {o : HO} (e : EnvOk K F ρ as σ H G) (hj : ρ.ce[j]? = some c) (ha : as[j]? = some a) (g : G a = none) (ok : CellOk K G (upd H a o) a c') : EnvOk K F ⟨ρ.sl, ρ.ce.set j c'⟩ as σ (upd H a o) G := by
  obtain ⟨fa, ⟨u, hu⟩, _⟩ := e.ce j c a hj ha
  have hl : j < ρ.ce.length := (List.getElem?_eq_some_iff.mp hj).1
  refine ⟨fun b u h => upd_oth (ne_of_none h g) (e.gh _ _ h), fun b u h => upd_oth (ne_of_none h fa) (e.fh _ _ h), e.fg, e.g0, e.nd, e.pr, by rw [e.ln]; exact (List.length_set).symm, fun i c2 b hc hb => ?_, e.sn, e.sl⟩
  have hc' : (ρ.ce.set j c')[i]? = some c2 := hc
  by_cases hij : j = i
  · subst hij
    rw [List.getElem?_set_self hl] at hc'
    cases hc'
    rw [ha] at hb
    cases hb
    exact ⟨fa, ⟨_, upd_same⟩, ok⟩
  · rw [List.getElem?_set_ne hij] at hc'
    obtain ⟨f, ⟨u2, hu2⟩, ok2⟩ := e.ce i c2 b hc' hb
    have nb : b ≠ a := fun z => by
      subst z
      exact hij ((List.getElem?_inj (List.getElem?_eq_some_iff.mp ha).1 e.nd).mp (ha.trans hb.symm))
    refine ⟨f, ⟨u2, upd_oth nb hu2⟩, ?_⟩
    cases c2 with
    | gone => trivial
    | lst ds => obtain ⟨g, vs, h, r⟩ := ok2; exact ⟨g, vs, upd_oth nb h, r⟩
    | ins C9 ns9 ds => obtain ⟨g, dx9, vs, h, ln9, r⟩ := ok2; exact ⟨g, dx9, vs, upd_oth nb h, ln9, r⟩
    | drw => obtain ⟨g, vs, h, r⟩ := ok2; exact ⟨g, vs, upd_oth nb h, r⟩
    | oth X => obtain ⟨g, o9, h, r⟩ := ok2; exact ⟨g, o9, upd_oth nb h, r⟩
theorem EnvOk.setC {as : List Addr} {σ : L2.St} {H G : Hp} {j : Nat} {a : Addr} {c c' : Cell} {xs : List V} (e : EnvOk K F ρ as σ H G) (hj : ρ.ce[j]? = some c) (ha : as[j]? = some a) (g : G a = none) (ok : CellOk K G (upd H a (.lst xs)) a c') : EnvOk K F ⟨ρ.sl, ρ.ce.set j c'⟩ as σ (upd H a (.lst xs)) G := e.setO hj ha g ok
/-- a cell is frozen -/
def frzA (j : Nat) (d : D) : AV → AV
  | .cel i => if i = j then .dat d else .cel i
  | x => x
def En.frzD (ρ : En) (j : Nat) (d : D) : En := ⟨ρ.sl.map (fun o => o.map (frzA j d)), ρ.ce.set j .gone⟩
abbrev En.frz (ρ : En) (j : Nat) (ds : List D) : En := ρ.frzD j (.lst ds)
/-- the data that a cell holds -/
def celD : Cell → Option D
  | .lst ds => some (.lst ds)
  | .ins C ns ds => some (.obj C ns ds)
  | _ => none
theorem EnvOk.frzD {as : List Addr} {σ : L2.St} {H G : Hp} {j : Nat} {a : Addr} {c0 : Cell} {d : D} (e : EnvOk K F ρ as σ H G) (hj : ρ.ce[j]? = some c0) (ha : as[j]? = some a) (hd : celD c0 = some d) : ∃ o, EnvOk K F (ρ.frzD j d) as σ H (upd G a o) ∧ Gr G as (upd G a o) as ∧ Rep K (upd G a o) d (.ref a) := by
  obtain ⟨fa, ⟨u, hu⟩, ok⟩ := e.ce j _ a hj ha
  obtain ⟨g, ra⟩ : G a = none ∧ Rep K (upd G a u) d (.ref a) := by
    cases c0 with
    | gone => cases hd
    | drw => cases hd
    | oth _ => cases hd
    | lst ds =>
      cases hd
      obtain ⟨g, vs, hv, hr⟩ := ok
      rw [hu] at hv
      cases hv
      exact ⟨g, .lst upd_same (Reps.mono (Same.new (Same.refl _) g) _ _ hr)⟩
    | ins C ns ds =>
      cases hd
      obtain ⟨g, dx, vs, hv, hl, hr⟩ := ok
      rw [hu] at hv
      cases hv
      exact ⟨g, .obj upd_same hl (Reps.mono (Same.new (Same.refl _) g) _ _ hr)⟩
  have sg : Same G (upd G a u) := Same.new (Same.refl _) g
  have hl : j < ρ.ce.length := (List.getElem?_eq_some_iff.mp hj).1
  refine ⟨u, ⟨fun b o h => ?_, e.fh, fun b o h => ?_, Same.trans e.g0 sg, e.nd, e.pr, by rw [e.ln]; exact (List.length_set).symm, fun i c b hc hb => ?_, by rw [e.sn]; exact (List.length_map _).symm, fun i av hi => ?_⟩, ⟨sg, [], by simp⟩, ra⟩
  · by_cases q : b = a
    · subst q; rw [upd_same] at h; cases h; exact hu
    · rw [upd_ne q] at h; exact e.gh _ _ h
  · by_cases q : b = a
    · subst q; exact .inr fa
    · rw [upd_ne q] at h; exact e.fg _ _ h
  · have hc' : (ρ.ce.set j .gone)[i]? = some c := hc
    by_cases hij : j = i
    · subst hij
      rw [List.getElem?_set_self hl] at hc'
      cases hc'
      rw [ha] at hb
      cases hb
      exact ⟨fa, ⟨_, hu⟩, trivial⟩
    · rw [List.getElem?_set_ne hij] at hc'
      obtain ⟨f, hu2, ok2⟩ := e.ce i c b hc' hb
      have nb : b ≠ a := fun z => by
        subst z
        exact hij ((List.getElem?_inj (List.getElem?_eq_some_iff.mp ha).1 e.nd).mp (ha.trans hb.symm))
      refine ⟨f, hu2, ?_⟩
      cases c with
      | gone => trivial
      | lst ds => obtain ⟨g, vs, h, r⟩ := ok2; exact ⟨by rw [upd_ne nb]; exact g, vs, h, Reps.mono sg _ _ r⟩
      | ins C9 ns9 ds => obtain ⟨g, dx9, vs, h, ln9, r⟩ := ok2; exact ⟨by rw [upd_ne nb]; exact g, dx9, vs, h, ln9, Reps.mono sg _ _ r⟩
      | drw => obtain ⟨g, vs, h, r⟩ := ok2; exact ⟨by rw [upd_ne nb]; exact g, vs, h, r⟩
      | oth X => obtain ⟨g, o9, h, r⟩ := ok2; exact ⟨by rw [upd_ne nb]; exact g, o9, h, X.mono (fun _ _ z => .inl (sg _ _ z)) r⟩
  · have hi' : (ρ.sl.map (fun o => o.map (frzA j d)))[i]? = some (some av) := hi
    rw [List.getElem?_map] at hi'
    obtain ⟨o, ho, eo⟩ := Option.map_eq_some_iff.mp hi'
    obtain ⟨x, rfl, rfl⟩ := Option.map_eq_some_iff.mp eo
    obtain ⟨v, hv2, r⟩ := e.sl i x ho
    refine ⟨v, hv2, ?_⟩
    cases x with
    | dat d => exact Rep.mono sg _ _ r
    | cel m =>
      obtain ⟨b, hb, rfl⟩ := r
      show RepA K _ as (if m = j then .dat d else .cel m) _
      by_cases q : m = j
      · subst q
        rw [if_pos rfl]
        rw [ha] at hb
        cases hb
        exact ra
      · rw [if_neg q]
        exact ⟨b, hb, rfl⟩
theorem EnvOk.frz {as : List Addr} {σ : L2.St} {H G : Hp} {j : Nat} {a : Addr} {ds : List D} (e : EnvOk K F ρ as σ H G) (hj : ρ.ce[j]? = some (.lst ds)) (ha : as[j]? = some a) : ∃ o, EnvOk K F (ρ.frz j ds) as σ H (upd G a o) ∧ Gr G as (upd G a o) as ∧ Rep K (upd G a o) (.lst ds) (.ref a) := e.frzD hj ha rfl
/-- values that become data -/
inductive Frz : List AV → En → List D → En → Prop
  | nil {ρ : En} : Frz [] ρ [] ρ
  | dat {d : D} {xs : List AV} {ρ ρ' : En} {ds : List D} : Frz xs ρ ds ρ' → Frz (.dat d :: xs) ρ (d :: ds) ρ'
  | cel {j : Nat} {es : List D} {xs : List AV} {ρ ρ' : En} {ds : List D} : ρ.ce[j]? = some (.lst es) → Frz xs (ρ.frz j es) ds ρ' → Frz (.cel j :: xs) ρ (.lst es :: ds) ρ'
  | ins {j : Nat} {C : Addr} {ns : List Str} {es : List D} {xs : List AV} {ρ ρ' : En} {ds : List D} : ρ.ce[j]? = some (.ins C ns es) → Frz xs (ρ.frzD j (.obj C ns es)) ds ρ' → Frz (.cel j :: xs) ρ (.obj C ns es :: ds) ρ'
theorem Frz.run {xs : List AV} {ρ' : En} {ds : List D} (f : Frz xs ρ ds ρ') : ∀ {as : List Addr} {σ : L2.St} {H G : Hp} {vs : List V}, EnvOk K F ρ as σ H G → RepAs K G as xs vs → ∃ G', EnvOk K F ρ' as σ H G' ∧ Gr G as G' as ∧ Reps K G' ds vs := by
  induction f with
  | nil => intro as σ H G vs e r; cases r; exact ⟨G, e, .refl, .nil⟩
  | dat _ ih =>
    intro as σ H G vs e r
    cases r with
    | cons a b =>
      obtain ⟨G', e', g, r'⟩ := ih e b
      exact ⟨G', e', g, .cons (Rep.mono g.g _ _ a) r'⟩
  | cel hc _ ih =>
    intro as σ H G vs e r
    cases r with
    | cons a b =>
      obtain ⟨p, hp, rfl⟩ := a
      obtain ⟨ws, e1, g1, r1⟩ := e.frz hc hp
      obtain ⟨G', e', g, r'⟩ := ih e1 (b.mono g1)
      exact ⟨G', e', g1.trans g, .cons (Rep.mono g.g _ _ r1) r'⟩
  | ins hc _ ih =>
    intro as σ H G vs e r
    cases r with
    | cons a b =>
      obtain ⟨p, hp, rfl⟩ := a
      obtain ⟨ws, e1, g1, r1⟩ := e.frzD hc hp rfl
      obtain ⟨G', e', g, r'⟩ := ih e1 (b.mono g1)
      exact ⟨G', e', g1.trans g, .cons (Rep.mono g.g _ _ r1) r'⟩
theorem we_tup {t : TA} (h : WpA K F t ρ fun xs ρ1 => ∃ ds ρ2, Frz xs ρ1 ds ρ2 ∧ Nat.ble ds.length 1000 = true ∧ k (.dat (.tup ds)) ρ2) : WpE K F (tTup t) ρ k := fun as σ H G e Q q =>
  h as σ H G e _ fun xs ρ1 vs as1 H1 G1 ⟨ds, ρ2, fz, hl, hk⟩ e1 g1 r1 => by
    obtain ⟨G2, e2, g2, r2⟩ := fz.run e1 r1
    refine ⟨sz (by rw [r2.length]; exact hl), fun p hp => ?_⟩
    obtain ⟨e3, g3⟩ := e2.newG (o := .tup vs) hp
    exact q _ _ _ _ _ _ hk e3 (g1.trans (g2.trans g3)) (Rep.tup (SqT.of upd_same) (Reps.mono g3.g _ _ r2))
def En.add (ρ : En) (ds : List D) : En := ⟨ρ.sl, ρ.ce ++ [.lst ds]⟩
theorem RepA.last {as : List Addr} {G : Hp} {p : Addr} {n : Nat} (h : as.length = n) : RepA K G (as ++ [p]) (.cel n) (.ref p) := ⟨p, by rw [List.getElem?_append_right (by omega), h]; simp, rfl⟩
theorem we_lst {t : TA} (h : WpA K F t ρ fun xs ρ1 => ∃ ds ρ2, Frz xs ρ1 ds ρ2 ∧ Nat.ble ds.length 1000 = true ∧ k (.cel ρ2.ce.length) (ρ2.add ds)) : WpE K F (tLst t) ρ k := fun as σ H G e Q q =>
  h as σ H G e _ fun xs ρ1 vs as1 H1 G1 ⟨ds, ρ2, fz, hl, hk⟩ e1 g1 r1 => by
    obtain ⟨G2, e2, g2, r2⟩ := fz.run e1 r1
    refine ⟨sz (by rw [r2.length]; exact hl), fun p hp => ?_⟩
    obtain ⟨e3, g3⟩ := e2.newC hp r2
    exact q _ _ _ _ _ _ hk e3 (g1.trans (g2.trans g3)) (RepA.last e2.ln)
end
/-! ### rules of the data layer: lists that are written to, loops, comprehensions -/
section
variable {K : PySem.W.Frag} {F : Fx} {ρ : En} {k : AV → En → Prop} {kb : Bool → En → Prop} {ks : KS} {t u : TS} {ta tb te : TE} {tt tu : TT}
def lstC : Cell → Bool
  | .lst _ => true
  | .drw => true
  | _ => false
def En.cell (ρ : En) (j : Nat) (c : Cell) : En := ⟨ρ.sl, ρ.ce.set j c⟩
theorem we_bm {r : V → List V → Hp → VK → Prop} {t : TA} (h : WpE K F ta ρ fun x ρ1 => (∃ j c, x = .cel j ∧ ρ1.ce[j]? = some c ∧ lstC c = true) ∧ WpA K F t ρ1 fun xs ρ2 => WpM K F r x xs ρ2 k) : WpE K F (tBM K "list" r ta t) ρ k := fun as σ H G e Q q =>
  h as σ H G e _ fun x ρ1 vx as1 H1 G1 ⟨⟨j, c, ex, hc, hg⟩, h1⟩ e1 g1 r1 => by
    subst ex
    obtain ⟨a, ha, rfl⟩ := id r1
    refine ⟨.inl ⟨rfl, ?_⟩, h1 as1 σ H1 G1 e1 _ fun xs ρ2 vs as2 H2 G2 h2 e2 g2 r2 => h2 as2 σ H2 G2 _ vs e2 (r1.mono g2) r2 Q (q.imp (g1.trans g2) fun _ _ z => z)⟩
    obtain ⟨_, _, ok⟩ := e1.ce j c a hc ha
    cases c with
    | gone => cases hg
    | oth _ => cases hg
    | ins _ _ _ => cases hg
    | lst ds => obtain ⟨_, vs, h, _⟩ := ok; exact ⟨vs, SqL.of h⟩
    | drw => obtain ⟨_, vs, h, _⟩ := ok; exact ⟨vs, SqL.of h⟩
theorem we_bm0 {r : V → List V → Hp → VK → Prop} (h : WpE K F ta ρ fun x ρ1 => (∃ j c, x = .cel j ∧ ρ1.ce[j]? = some c ∧ lstC c = true) ∧ WpM K F r x [] ρ1 k) : WpE K F (tBM0 K "list" r ta) ρ k := fun as σ H G e Q q =>
  h as σ H G e _ fun x ρ1 vx as1 H1 G1 ⟨⟨j, c, ex, hc, hg⟩, h1⟩ e1 g1 r1 => by
    subst ex
    obtain ⟨a, ha, rfl⟩ := id r1
    refine ⟨.inl ⟨rfl, ?_⟩, h1 as1 σ H1 G1 _ [] e1 r1 .nil Q (q.imp g1 fun _ _ z => z)⟩
    obtain ⟨_, _, ok⟩ := e1.ce j c a hc ha
    cases c with
    | gone => cases hg
    | oth _ => cases hg
    | ins _ _ _ => cases hg
    | lst ds => obtain ⟨_, vs, h, _⟩ := ok; exact ⟨vs, SqL.of h⟩
    | drw => obtain ⟨_, vs, h, _⟩ := ok; exact ⟨vs, SqL.of h⟩
theorem wm_append {j : Nat} {x : AV} {ds : List D} {d : D} {ρ2 : En} (fz : Frz [x] ρ [d] ρ2) (hc : ρ2.ce[j]? = some (.lst ds)) (hl : ds.length < 16000000) (hk : k (.dat .non) (ρ2.cell j (.lst (ds ++ [d])))) : WpM K F rAppend (.cel j) [x] ρ k := fun as σ H G v vs e r1 r2 Q q => by
  obtain ⟨G2, e2, g2, r3⟩ := fz.run e r2
  obtain ⟨a, ha, rfl⟩ := r1
  cases r3 with
  | cons y z =>
    cases z
    obtain ⟨_, _, g, ws, hw, hr⟩ := e2.ce j _ a hc ha
    refine ⟨a, ws, _, rfl, rfl, hw, szbl (by rw [hr.length]; omega), q _ _ _ as _ G2 hk (e2.setC hc ha g ⟨g, _, upd_same, hr.append (.cons y .nil)⟩) g2 Rep.non⟩
theorem wm_clear {j : Nat} {ds : List D} (hc : ρ.ce[j]? = some (.lst ds)) (hk : k (.dat .non) (ρ.cell j (.lst []))) : WpM K F rClear (.cel j) [] ρ k := fun as σ H G v vs e r1 r2 Q q => by
  obtain ⟨a, ha, rfl⟩ := r1
  cases r2
  obtain ⟨_, _, g, ws, hw, hr⟩ := e.ce j _ a hc ha
  exact ⟨a, ws, rfl, rfl, hw, q _ _ _ as _ G hk (e.setC hc ha g ⟨g, _, upd_same, .nil⟩) .refl Rep.non⟩
/-- the answer is a new list -/
theorem new_list {as : List Addr} {σ : L2.St} {H G : Hp} {p : Addr} {vs : List V} {ds : List D} {Q : VK} (e : EnvOk K F ρ as σ H G) (q : Got K F ρ as σ G k Q) (hr : Reps K G ds vs) (hk : k (.cel ρ.ce.length) (ρ.add ds)) (hp : H p = none) : Q (.ref p) (upd H p (.lst vs)) := by
  obtain ⟨e3, g3⟩ := e.newC hp hr
  exact q _ _ _ _ _ _ hk e3 g3 (RepA.last e.ln)
theorem wc_list {x : AV} {ds : List D} (hx : IsL ρ x ds) (hk : k (.cel ρ.ce.length) (ρ.add ds)) : WpC K F (fun xs H Q => ∃ p ys, xs = [.ref p] ∧ (SqL K H p ys ∨ SqT K H p ys) ∧ ∀ l, H l = none → Q (.ref l) (upd H l (.lst ys))) [x] ρ k := fun as σ H G vs e r Q q => by
  cases r with
  | cons r c =>
    cases c
    obtain ⟨a, vs, rfl, hs, hr⟩ := hx.rep e r
    exact ⟨a, vs, rfl, .inl hs, fun p hp => new_list e q hr hk hp⟩
theorem wc_listT {ds : List D} (hk : k (.cel ρ.ce.length) (ρ.add ds)) : WpC K F (fun xs H Q => ∃ p ys, xs = [.ref p] ∧ (SqL K H p ys ∨ SqT K H p ys) ∧ ∀ l, H l = none → Q (.ref l) (upd H l (.lst ys))) [.dat (.tup ds)] ρ k := fun as σ H G vs e r Q q => by
  cases r with
  | cons r c =>
    cases c
    obtain ⟨a, vs, rfl, hs, hr⟩ := Rep.tupE r
    exact ⟨a, vs, rfl, .inr (Same.seqT e.gh hs), fun p hp => new_list e q hr hk hp⟩
theorem wc_tuple {x : AV} {ds : List D} (hx : IsL ρ x ds) (hk : k (.dat (.tup ds)) ρ) : WpC K F (fun xs H Q => ∃ p ys, xs = [.ref p] ∧ ((SqL K H p ys ∧ ∀ l, H l = none → Q (.ref l) (upd H l (.tup ys))) ∨ (SqT K H p ys ∧ Q (.ref p) H))) [x] ρ k := fun as σ H G vs e r Q q => by
  cases r with
  | cons r c =>
    cases c
    obtain ⟨a, vs, rfl, hs, hr⟩ := hx.rep e r
    refine ⟨a, vs, rfl, .inl ⟨hs, fun p hp => ?_⟩⟩
    obtain ⟨e3, g3⟩ := e.newG (o := .tup vs) hp
    exact q _ _ _ _ _ _ hk e3 g3 (Rep.tup (SqT.of upd_same) (Reps.mono g3.g _ _ hr))
theorem wr_cat {x y : AV} {ds es : List D} (hx : IsL ρ x ds) (hy : IsL ρ y es) (hl : ds.length + es.length ≤ 16000000) (hk : k (.cel ρ.ce.length) (ρ.add (ds ++ es))) : WpR K F (rCatF K) x y ρ k := fun as σ H G vx vy e r1 r2 Q q => by
  obtain ⟨a, vs, rfl, hs, hr⟩ := hx.rep e r1
  obtain ⟨b, ws, rfl, hs2, hr2⟩ := hy.rep e r2
  exact ⟨a, b, vs, ws, rfl, rfl, hs, hs2, szb (by rw [hr.length, hr2.length]; exact hl), fun p hp => new_list e q (hr.append hr2) hk hp⟩
/-- a list that may be copied whole: data, or a cell -/
inductive IsP (ρ : En) : AV → List D → Prop
  | dat (ds : List D) : IsP ρ (.dat (.lst ds)) ds
  | cel {j : Nat} {ds : List D} : ρ.ce[j]? = some (.lst ds) → IsP ρ (.cel j) ds
theorem IsP.rep {as : List Addr} {σ : L2.St} {H G : Hp} {x : AV} {ds : List D} {v : V} (e : EnvOk K F ρ as σ H G) (h : IsP ρ x ds) (r : RepA K G as x v) : ∃ a vs, v = .ref a ∧ H a = some (.lst vs) ∧ Reps K G ds vs := by
  cases h with
  | dat => obtain ⟨a, vs, rfl, hs, hr⟩ := Rep.lstE r; exact ⟨a, vs, rfl, e.gh _ _ hs, hr⟩
  | cel hc =>
    obtain ⟨a, ha, rfl⟩ := r
    obtain ⟨_, _, _, vs, hv, hr⟩ := e.ce _ _ a hc ha
    exact ⟨a, vs, rfl, hv, hr⟩
theorem wr_rep {x : AV} {ds : List D} {n : Int} (hx : IsP ρ x ds) (h0 : 0 ≤ n) (h1 : n < 1000000) (hl : ds.length * n.toNat ≤ 16000000) (hk : k (.cel ρ.ce.length) (ρ.add (List.replicate n.toNat ds).flatten)) : WpR K F rRep x (.dat (.int n)) ρ k := fun as σ H G vx vy e r1 r2 Q q => by
  obtain ⟨a, vs, rfl, hs, hr⟩ := hx.rep e r1
  exact ⟨a, n, vs, rfl, Rep.intE r2, hs, by omega, by omega, szb (by rw [hr.length]; exact hl), fun p hp => new_list e q (hr.rep n.toNat) hk hp⟩
theorem wm_extend {j : Nat} {x : AV} {ds es : List D} (hx : IsP ρ x es) (hc : ρ.ce[j]? = some (.lst ds)) (hl : ds.length + es.length ≤ 16000000) (hk : k (.dat .non) (ρ.cell j (.lst (ds ++ es)))) : WpM K F rExtend (.cel j) [x] ρ k := fun as σ H G v vs e r1 r2 Q q => by
  obtain ⟨a, ha, rfl⟩ := r1
  cases r2 with
  | cons r2 r3 =>
    cases r3
    obtain ⟨b, ws, rfl, hw, hr⟩ := hx.rep e r2
    obtain ⟨_, _, g, us, hu, hr2⟩ := e.ce j _ a hc ha
    exact ⟨a, b, us, ws, rfl, rfl, hu, hw, szb (by rw [hr.length, hr2.length]; omega), q _ _ _ as _ G hk (e.setC hc ha g ⟨g, _, upd_same, hr2.append hr⟩) .refl Rep.non⟩
def cutD (xs : List D) (lo hi : Option Int) : List D := (xs.drop (HT.sIx xs.length 0 lo)).take (HT.sIx xs.length xs.length hi - HT.sIx xs.length 0 lo)
theorem Reps.cut {G : Hp} {ds : List D} {vs : List V} (h : Reps K G ds vs) (lo hi : Option Int) : Reps K G (cutD ds lo hi) (cutV vs lo hi) := by
  unfold cutD cutV
  rw [h.length]
  exact (h.drop _).take _
def WpO (K : PySem.W.Frag) (F : Fx) (t : TO) (ρ : En) (k : Option Int → En → Prop) : Prop := ∀ as σ H G, EnvOk K F ρ as σ H G → ∀ Q : Option Int → Hp → Prop, (∀ b ρ' as' H' G', k b ρ' → EnvOk K F ρ' as' σ H' G' → Gr G as G' as' → Q b H') → t σ H Q
theorem wo_none {ko : Option Int → En → Prop} (h : ko none ρ) : WpO K F tNoPart ρ ko := fun as σ H G e Q q => q _ _ _ _ _ h e .refl
theorem wo_some {ko : Option Int → En → Prop} (h : WpE K F te ρ fun x ρ1 => ∃ i, x = .dat (.int i) ∧ ko (some i) ρ1) : WpO K F (tPart te) ρ ko := fun as σ H G e Q q =>
  h as σ H G e _ fun x ρ1 vx as1 H1 G1 ⟨c, ex, hc⟩ e1 g1 r1 => by
    subst ex
    exact ⟨c, Rep.intE r1, q _ _ _ _ _ hc e1 g1⟩
theorem we_slL {tl th : TO} (h : WpE K F te ρ fun x ρ1 => WpO K F tl ρ1 fun lo ρ2 => WpO K F th ρ2 fun hi ρ3 => ∃ ds, IsL ρ3 x ds ∧ k (.cel ρ3.ce.length) (ρ3.add (cutD ds lo hi))) : WpE K F (tSl (rSlL K) te tl th) ρ k := fun as σ H G e Q q =>
  h as σ H G e _ fun x ρ1 vx as1 H1 G1 h1 e1 g1 r1 => h1 as1 σ H1 G1 e1 _ fun lo ρ2 as2 H2 G2 h2 e2 g2 => h2 as2 σ H2 G2 e2 _ fun hi ρ3 as3 H3 G3 ⟨ds, hd, h3⟩ e3 g3 => by
    obtain ⟨a, vs, rfl, hs, hr⟩ := hd.rep e3 (r1.mono (g2.trans g3))
    exact ⟨a, vs, rfl, hs, fun p hp => new_list e3 (q.imp (g1.trans (g2.trans g3)) fun _ _ z => z) (hr.cut lo hi) h3 hp⟩
/-! what is walked -/
def ItS (K : PySem.W.Frag) (F : Fx) (J : It) (ds : List D) (gd : En → Prop) (as0 : List Addr) (G0 : Hp) : Prop := ∀ ρ as σ H G, EnvOk K F ρ as σ H G → Gr G0 as0 G as → gd ρ →
  (∀ i, i < ds.length → J.go i H) ∧ J.stop ds.length H ∧ ∀ i x H', i < ds.length → J.yld i H x H' → ∃ d G', ds[i]? = some d ∧ (∀ σ', EnvOk K F ρ as σ' H G → EnvOk K F ρ as σ' H' G') ∧ Gr G as G' as ∧ Rep K G' d x
def WpI (K : PySem.W.Frag) (F : Fx) (wi : TI) (ρ : En) (k : List D → (En → Prop) → En → Prop) : Prop := ∀ as σ H G, EnvOk K F ρ as σ H G → ∀ R : It → Hp → Prop, (∀ ds gd J ρ' as' H' G', k ds gd ρ' → EnvOk K F ρ' as' σ H' G' → Gr G as G' as' → ItS K F J ds gd as' G' → R J H') → wi σ H R
theorem wi_list {ki : List D → (En → Prop) → En → Prop} {tl : TE} (h : WpE K F tl ρ fun x ρ1 => ∃ ds, IsL ρ1 x ds ∧ ki ds (fun ρ2 => IsL ρ2 x ds) ρ1) : WpI K F (iList K tl) ρ ki := fun as σ H G e R q =>
  h as σ H G e _ fun x ρ1 vx as1 H1 G1 ⟨ds, hx, h1⟩ e1 g1 r1 => by
    obtain ⟨a, vs, rfl, hs, hr⟩ := hx.rep e1 r1
    refine ⟨a, rfl, ⟨vs, hs⟩, q _ _ _ _ _ _ _ h1 e1 g1 fun ρ2 as2 σ2 H2 G2 e2 g2 hx2 => ?_⟩
    obtain ⟨a2, ws, ea, hs2, hr2⟩ := hx2.rep e2 (r1.mono g2)
    cases ea
    have w := walk_list (K := K) (a := a) (xs := ws)
    rw [hr2.length] at w
    refine ⟨fun i hi => w.goes i H2 hi hs2, w.stops H2 hs2, fun i x H' hi y => ?_⟩
    obtain ⟨rfl, hx⟩ := w.yields i H2 x H' hi hs2 y
    obtain ⟨d, hd⟩ : ∃ d, ds[i]? = some d := ⟨_, List.getElem?_eq_getElem hi⟩
    obtain ⟨v, hv, rv⟩ := hr2.get hd
    rw [hx] at hv
    cases hv
    exact ⟨d, G2, hd, fun _ z => z, .refl, rv⟩
theorem wi_tup {ki : List D → (En → Prop) → En → Prop} {tl : TE} (h : WpE K F tl ρ fun x ρ1 => ∃ ds, x = .dat (.tup ds) ∧ ki ds (fun _ => True) ρ1) : WpI K F (iTup K tl) ρ ki := fun as σ H G e R q =>
  h as σ H G e _ fun x ρ1 vx as1 H1 G1 ⟨ds, ex, h1⟩ e1 g1 r1 => by
    subst ex
    obtain ⟨a, vs, rfl, hs, hr⟩ := Rep.tupE r1
    refine ⟨a, rfl, ⟨vs, Same.seqT e1.gh hs⟩, q _ _ _ _ _ _ _ h1 e1 g1 fun ρ2 as2 σ2 H2 G2 e2 g2 _ => ?_⟩
    have hs2 := Same.seqT (Same.trans g2.g e2.gh) hs
    have w := walk_tup (K := K) (a := a) (xs := vs)
    rw [hr.length] at w
    refine ⟨fun i hi => w.goes i H2 hi hs2, w.stops H2 hs2, fun i x H' hi y => ?_⟩
    obtain ⟨rfl, hx⟩ := w.yields i H2 x H' hi hs2 y
    obtain ⟨d, hd⟩ : ∃ d, ds[i]? = some d := ⟨_, List.getElem?_eq_getElem hi⟩
    obtain ⟨v, hv, rv⟩ := hr.get hd
    rw [hx] at hv
    cases hv
    exact ⟨d, G2, hd, fun _ z => z, .refl, Rep.mono g2.g _ _ rv⟩
def rngD (lo : Int) (n : Nat) : List D := (List.range n).map fun (i : Nat) => D.int (lo + i)
theorem its_range {lo : Int} {n : Nat} {as : List Addr} {G : Hp} : ItS K F (Itr lo n) (rngD lo n) (fun _ => True) as G := fun ρ2 as2 σ2 H2 G2 e2 g2 _ => by
  have w := walk_range (lo := lo) (n := n)
  have ln : (rngD lo n).length = n := by unfold rngD; rw [List.length_map, List.length_range]
  refine ⟨fun i hi => w.goes i H2 (ln ▸ hi) trivial, by rw [ln]; exact w.stops H2 trivial, fun i x H' hi y => ?_⟩
  obtain ⟨rfl, rfl⟩ := w.yields i H2 x H' (ln ▸ hi) trivial y
  exact ⟨.int (lo + i), G2, by unfold rngD; rw [List.getElem?_map, List.getElem?_range (ln ▸ hi)]; rfl, fun _ z => z, .refl, Rep.int _⟩
theorem wi_rng1 {ki : List D → (En → Prop) → En → Prop} {t : TA} (h : WpA K F t ρ fun xs ρ1 => ∃ j : Int, xs = [.dat (.int j)] ∧ (-(2 ^ 62) ≤ j ∧ j < 2 ^ 62) ∧ ki (rngD 0 j.toNat) (fun _ => True) ρ1) : WpI K F (iRng1 t) ρ ki := fun as σ H G e R q =>
  h as σ H G e _ fun xs ρ1 vs as1 H1 G1 ⟨j, ex, hj, h1⟩ e1 g1 r1 => by
    subst ex
    cases r1 with
    | cons a b => cases b; exact ⟨j, by rw [Rep.intE a], hj.1, hj.2, q _ _ _ _ _ _ _ h1 e1 g1 its_range⟩
theorem wi_rng2 {ki : List D → (En → Prop) → En → Prop} {t : TA} (h : WpA K F t ρ fun xs ρ1 => ∃ i j : Int, xs = [.dat (.int i), .dat (.int j)] ∧ (-(2 ^ 62) ≤ i ∧ i < 2 ^ 62 ∧ -(2 ^ 62) ≤ j ∧ j < 2 ^ 62) ∧ ki (rngD i (j - i).toNat) (fun _ => True) ρ1) : WpI K F (iRng2 t) ρ ki := fun as σ H G e R q =>
  h as σ H G e _ fun xs ρ1 vs as1 H1 G1 ⟨i, j, ex, hj, h1⟩ e1 g1 r1 => by
    subst ex
    cases r1 with
    | cons a b => cases b with | cons b c => cases c; exact ⟨i, j, by rw [Rep.intE a, Rep.intE b], hj, q _ _ _ _ _ _ _ h1 e1 g1 its_range⟩
/-! for -/
/-- cells that a turn made are forgotten -/
def truA (n : Nat) : AV → Option AV
  | .cel j => if j < n then some (.cel j) else none
  | x => some x
theorem pre_take {α : Type} {xs ys : List α} {n : Nat} (h : xs <+: ys) (hn : xs.length ≤ n) : xs <+: ys.take n := by
  obtain ⟨r, rfl⟩ := h
  rw [List.take_append, List.take_of_length_le hn]
  exact List.prefix_append _ _
def En.trunc (ρ : En) (n : Nat) : En := ⟨ρ.sl.map (fun o => o.bind (truA n)), ρ.ce.take n⟩
theorem EnvOk.trunc {as : List Addr} {σ : L2.St} {H G : Hp} (e : EnvOk K F ρ as σ H G) (n : Nat) (hn : F.as0.length ≤ n) : EnvOk K F (ρ.trunc n) (as.take n) σ H G := by
  refine ⟨e.gh, e.fh, e.fg, e.g0, List.Nodup.sublist (List.take_sublist n as) e.nd, pre_take e.pr hn, ?_, fun j c a hc ha => ?_, ?_, fun i av hi => ?_⟩
  · show (as.take n).length = (ρ.ce.take n).length
    rw [List.length_take, List.length_take, e.ln]
  · have hc : (ρ.ce.take n)[j]? = some c := hc
    rw [List.getElem?_take] at hc ha
    split at hc
    · rename_i h
      rw [if_pos h] at ha
      exact e.ce j c a hc ha
    · cases hc
  · show σ.length = (ρ.sl.map _).length
    rw [List.length_map]
    exact e.sn
  · have hi : (ρ.sl.map (fun o => o.bind (truA n)))[i]? = some (some av) := hi
    rw [List.getElem?_map] at hi
    obtain ⟨o, ho, eo⟩ := Option.map_eq_some_iff.mp hi
    obtain ⟨x, rfl, ex⟩ := Option.bind_eq_some_iff.mp eo
    obtain ⟨v, hv, r⟩ := e.sl i x ho
    refine ⟨v, hv, ?_⟩
    cases x with
    | dat d => cases ex; exact r
    | cel j =>
      have ex : (if j < n then some (AV.cel j) else none) = some av := ex
      split at ex
      · rename_i h
        cases ex
        obtain ⟨a, ha, rfl⟩ := r
        exact ⟨a, by rw [List.getElem?_take, if_pos h]; exact ha, rfl⟩
      · cases ex
theorem Gr.trunc {G0 G : Hp} {as0 as : List Addr} {n : Nat} (g : Gr G0 as0 G as) (h : as0.length ≤ n) : Gr G0 as0 G (as.take n) := by
  obtain ⟨g, r, rfl⟩ := g
  exact ⟨g, r.take (n - as0.length), by rw [List.take_append, List.take_of_length_le h]⟩
/-- .. all but one, which is then the next -/
def kepA (n j : Nat) : AV → Option AV
  | .cel i => if i = j then some (.cel n) else if i < n then some (.cel i) else none
  | x => some x
def En.keep (ρ : En) (n j : Nat) : En := ⟨ρ.sl.map (fun o => o.bind (kepA n j)), ρ.ce.take n ++ (ρ.ce[j]?).toList⟩
theorem EnvOk.keep {as : List Addr} {σ : L2.St} {H G : Hp} (e : EnvOk K F ρ as σ H G) {n j : Nat} (hn : F.as0.length ≤ n) (h1 : n ≤ j) (h2 : j < ρ.ce.length) : EnvOk K F (ρ.keep n j) (as.take n ++ (as[j]?).toList) σ H G := by
  have ja : j < as.length := by rw [e.ln]; exact h2
  have ea : as[j]? = some as[j] := List.getElem?_eq_getElem ja
  have ec : ρ.ce[j]? = some ρ.ce[j] := List.getElem?_eq_getElem h2
  have la : (as.take n).length = n := by rw [List.length_take]; omega
  have lc : (ρ.ce.take n).length = n := by rw [List.length_take]; omega
  have at_a : ∀ i, (as.take n ++ (as[j]?).toList)[i]? = if i < n then as[i]? else if i = n then some as[j] else none := fun i => by
    rw [ea]
    by_cases c : i < n
    · rw [if_pos c, List.getElem?_append_left (by rw [la]; exact c), List.getElem?_take, if_pos c]
    · rw [if_neg c, List.getElem?_append_right (by rw [la]; omega), la]
      by_cases c2 : i = n
      · rw [if_pos c2, c2, Nat.sub_self]; rfl
      · rw [if_neg c2]
        exact List.getElem?_eq_none (by show 1 ≤ i - n; omega)
  have at_c : ∀ i, (ρ.ce.take n ++ (ρ.ce[j]?).toList)[i]? = if i < n then ρ.ce[i]? else if i = n then some ρ.ce[j] else none := fun i => by
    rw [ec]
    by_cases c : i < n
    · rw [if_pos c, List.getElem?_append_left (by rw [lc]; exact c), List.getElem?_take, if_pos c]
    · rw [if_neg c, List.getElem?_append_right (by rw [lc]; omega), lc]
      by_cases c2 : i = n
      · rw [if_pos c2, c2, Nat.sub_self]; rfl
      · rw [if_neg c2]
        exact List.getElem?_eq_none (by show 1 ≤ i - n; omega)
  have sub : (as.take n ++ (as[j]?).toList).Sublist as := by
    rw [ea]
    conv => rhs; rw [← List.take_append_drop n as]
    refine List.Sublist.append (List.Sublist.refl _) (List.singleton_sublist.mpr ?_)
    refine List.mem_of_getElem? (i := j - n) ?_
    rw [List.getElem?_drop, show n + (j - n) = j by omega]
    exact ea
  refine ⟨e.gh, e.fh, e.fg, e.g0, List.Nodup.sublist sub e.nd, (pre_take e.pr hn).trans (List.prefix_append _ _), ?_, fun i c a hc ha => ?_, ?_, fun i av hi => ?_⟩
  · show (as.take n ++ _).length = (ρ.ce.take n ++ _).length
    rw [List.length_append, List.length_append, la, lc, ea, ec]; rfl
  · have hc : (ρ.ce.take n ++ (ρ.ce[j]?).toList)[i]? = some c := hc
    rw [at_c] at hc
    rw [at_a] at ha
    split at hc
    · rename_i h
      rw [if_pos h] at ha
      exact e.ce i c a hc ha
    · rename_i h
      rw [if_neg h] at ha
      split at hc
      · rename_i h3
        rw [if_pos h3] at ha
        exact e.ce j c a (ec.trans hc) (ea.trans ha)
      · cases hc
  · show σ.length = (ρ.sl.map _).length
    rw [List.length_map]
    exact e.sn
  · have hi : (ρ.sl.map (fun o => o.bind (kepA n j)))[i]? = some (some av) := hi
    rw [List.getElem?_map] at hi
    obtain ⟨o, ho, eo⟩ := Option.map_eq_some_iff.mp hi
    obtain ⟨x, rfl, ex⟩ := Option.bind_eq_some_iff.mp eo
    obtain ⟨v, hv, r⟩ := e.sl i x ho
    refine ⟨v, hv, ?_⟩
    cases x with
    | dat d => cases ex; exact r
    | cel k =>
      have ex : (if k = j then some (AV.cel n) else if k < n then some (AV.cel k) else none) = some av := ex
      obtain ⟨a, ha, rfl⟩ := r
      split at ex
      · rename_i h
        cases ex
        subst h
        exact ⟨a, by rw [at_a, if_neg (Nat.lt_irrefl _), if_pos rfl]; exact ea.symm.trans ha, rfl⟩
      · split at ex
        · rename_i h
          cases ex
          exact ⟨a, by rw [at_a, if_pos h]; exact ha, rfl⟩
        · cases ex
theorem Gr.keep {G0 G : Hp} {as0 as r : List Addr} {n : Nat} (g : Gr G0 as0 G as) (h : as0.length ≤ n) : Gr G0 as0 G (as.take n ++ r) := by
  obtain ⟨g, s, rfl⟩ := g
  exact ⟨g, s.take (n - as0.length) ++ r, by rw [List.take_append, List.take_of_length_le h, List.append_assoc]⟩
/-- a turn's end: as it is, or without the turn's own cells -/
inductive Tr (n : Nat) (ρ : En) : En → Prop
  | all : Tr n ρ ρ
  | cut : Tr n ρ (ρ.trunc n)
  | keep (j : Nat) (h1 : n ≤ j) (h2 : j < ρ.ce.length) : Tr n ρ (ρ.keep n j)
theorem Tr.run {n : Nat} {ρ' : En} {as as0 : List Addr} {σ : L2.St} {H G G0 : Hp} (t : Tr n ρ ρ') (e : EnvOk K F ρ as σ H G) (g : Gr G0 as0 G as) (h : as0.length ≤ n) (h0 : F.as0.length ≤ n) : ∃ as', EnvOk K F ρ' as' σ H G ∧ Gr G0 as0 G as' := by
  cases t with
  | all => exact ⟨as, e, g⟩
  | cut => exact ⟨_, e.trunc n h0, g.trunc h⟩
  | keep j h1 h2 => exact ⟨_, e.keep h0 h1 h2, g.keep h⟩
def Loop (K : PySem.W.Frag) (F : Fx) (n : Nat) (gd : En → Prop) (g : TG) (tb : TS) (ks : KS) : List D → En → Prop
  | [], ρ => gd ρ ∧ ks.nx ρ
  | d :: ds, ρ => gd ρ ∧ WpG K F g (.dat d) ρ fun ρ1 => WpS K F tb ρ1 { nx := fun ρ2 => ∃ ρ3, Tr n ρ2 ρ3 ∧ Loop K F n gd g tb ks ds ρ3, rt := ks.rt, ct := fun ρ2 => ∃ ρ3, Tr n ρ2 ρ3 ∧ Loop K F n gd g tb ks ds ρ3, bk := ks.nx }
theorem Loop.gd {n : Nat} {gd : En → Prop} {g : TG} {tb : TS} : ∀ {ds : List D} {ρ : En}, Loop K F n gd g tb ks ds ρ → gd ρ
  | [], _, h => h.1
  | _ :: _, _, h => h.1
theorem ws_for {wi : TI} {g : TG} {tb : TS} (h : WpI K F wi ρ fun ds gd ρ1 => Loop K F ρ1.ce.length gd g tb ks ds ρ1) : WpS K F (tFor wi g tb) ρ ks := fun as σ H G e D q =>
  h as σ H G e _ fun ds gd J ρ1 as1 H1 G1 h1 e1 g1 its => by
    have ln1 : as1.length ≤ ρ1.ce.length := by rw [e1.ln]; exact Nat.le_refl _
    have ln0 : F.as0.length ≤ ρ1.ce.length := Nat.le_trans e1.pr.length_le ln1
    refine ⟨fun i m σ' H' => m = ds.length - i ∧ i ≤ ds.length ∧ ∃ ρ2 as2 G2, EnvOk K F ρ2 as2 σ' H' G2 ∧ Gr G1 as1 G2 as2 ∧ Loop K F ρ1.ce.length gd g tb ks (ds.drop i) ρ2, ⟨_, rfl, Nat.zero_le _, ρ1, as1, G1, e1, .refl, h1⟩, ?_⟩
    rintro i m σ' H' ⟨rfl, hi, ρ2, as2, G2, e2, g2, lp⟩
    obtain ⟨go, st, yl⟩ := its ρ2 as2 σ' H' G2 e2 g2 lp.gd
    by_cases hlt : i < ds.length
    · obtain ⟨d, hd⟩ : ∃ d, ds[i]? = some d := ⟨_, List.getElem?_eq_getElem hlt⟩
      have ed : ds.drop i = d :: ds.drop (i + 1) := by
        rw [List.drop_eq_getElem_cons hlt]
        rw [List.getElem?_eq_getElem hlt] at hd
        cases hd
        rfl
      rw [ed] at lp
      refine .inr ⟨go i hlt, fun σ3 H3 => ∃ ρ3 as3 G3, EnvOk K F ρ3 as3 σ3 H3 G3 ∧ Gr G1 as1 G3 as3 ∧ Loop K F ρ1.ce.length gd g tb ks (ds.drop (i + 1)) ρ3, fun σ3 H3 ⟨ρ3, as3, G3, e3, g3, l3⟩ => ⟨_, by omega, rfl, hlt, ρ3, as3, G3, e3, g3, l3⟩, fun x H3 y => ?_⟩
      obtain ⟨d', G3, hd', e3, g3, rx⟩ := yl i x H3 hlt y
      rw [hd] at hd'
      cases hd'
      refine lp.2 as2 σ' H3 G3 x (e3 _ e2) rx _ fun ρ4 as4 σ4 H4 G4 h4 e4 g4 => ?_
      refine h4 as4 σ4 H4 G4 e4 _ ⟨fun ρ5 as5 σ5 H5 G5 ⟨ρ6, tr, h5⟩ e5 g5 => ?_, fun av ρ5 v as5 σ5 H5 G5 h5 e5 g5 r5 => q.rt av ρ5 v as5 σ5 H5 G5 h5 e5 (g1.trans (g2.trans (g3.trans (g4.trans g5)))) r5, fun ρ5 as5 σ5 H5 G5 h5 e5 g5 => q.nx ρ5 as5 σ5 H5 G5 h5 e5 (g1.trans (g2.trans (g3.trans (g4.trans g5)))), fun ρ5 as5 σ5 H5 G5 ⟨ρ6, tr, h5⟩ e5 g5 => ?_, q.fr⟩
      · obtain ⟨as6, e6, g6⟩ := tr.run e5 (g2.trans (g3.trans (g4.trans g5))) ln1 ln0
        exact ⟨ρ6, as6, G5, e6, g6, h5⟩
      · obtain ⟨as6, e6, g6⟩ := tr.run e5 (g2.trans (g3.trans (g4.trans g5))) ln1 ln0
        exact ⟨ρ6, as6, G5, e6, g6, h5⟩
    · have ei : i = ds.length := by omega
      subst ei
      rw [List.drop_length] at lp
      exact .inl ⟨st, q.nx ρ2 as2 σ' H' G2 lp.2 e2 (g1.trans g2)⟩
/-! while -/
theorem ws_while {tc : TT} {tb : TS} (W : Nat → En → Prop) (m0 : Nat) (h0 : W m0 ρ) (hs : ∀ m ρ1, W m ρ1 → WpT K F tc ρ1 fun b ρ2 => if b = true then WpS K F tb ρ2 { nx := fun ρ3 => ∃ m', m' < m ∧ W m' ρ3, rt := ks.rt, ct := fun ρ3 => ∃ m', m' < m ∧ W m' ρ3, bk := ks.nx } else ks.nx ρ2) : WpS K F (tWhile tc tb) ρ ks := fun as σ H G e D q => by
  refine ⟨fun m σ' H' => ∃ ρ2 as2 G2, EnvOk K F ρ2 as2 σ' H' G2 ∧ Gr G as G2 as2 ∧ W m ρ2, ⟨m0, ρ, as, G, e, .refl, h0⟩, ?_⟩
  rintro m σ' H' ⟨ρ2, as2, G2, e2, g2, hw⟩
  refine hs m ρ2 hw as2 σ' H' G2 e2 _ fun b ρ3 as3 H3 G3 h3 e3 g3 => ?_
  cases b with
  | true =>
    refine ⟨fun σ4 H4 => ∃ m', m' < m ∧ ∃ ρ4 as4 G4, EnvOk K F ρ4 as4 σ4 H4 G4 ∧ Gr G as G4 as4 ∧ W m' ρ4, fun σ4 H4 z => z, ?_⟩
    refine (show WpS K F tb ρ3 _ from h3) as3 σ' H3 G3 e3 _ ⟨fun ρ4 as4 σ4 H4 G4 ⟨m', hm, w4⟩ e4 g4 => ⟨m', hm, ρ4, as4, G4, e4, g2.trans (g3.trans g4), w4⟩, fun av ρ4 v as4 σ4 H4 G4 h4 e4 g4 r4 => q.rt av ρ4 v as4 σ4 H4 G4 h4 e4 (g2.trans (g3.trans g4)) r4, fun ρ4 as4 σ4 H4 G4 h4 e4 g4 => q.nx ρ4 as4 σ4 H4 G4 h4 e4 (g2.trans (g3.trans g4)), fun ρ4 as4 σ4 H4 G4 ⟨m', hm, w4⟩ e4 g4 => ⟨m', hm, ρ4, as4, G4, e4, g2.trans (g3.trans g4), w4⟩, q.fr⟩
  | false => exact q.nx ρ3 as3 σ' H3 G3 h3 e3 (g2.trans g3)
end
/-! ### rules of the data layer: promises and calls -/
inductive RV where
  | dat (d : D)
  | new (ds : List D)
def FrX (as : List Addr) (H H' : Hp) : Prop := ∀ a o, a ∉ as → H a = some o → H' a = some o
def NewG (H G G' : Hp) : Prop := ∀ a o, G' a = some o → G a = some o ∨ H a = none
def noGone : List Cell → Bool
  | [] => true
  | .gone :: _ => false
  | .lst _ :: r => noGone r
  | .drw :: r => noGone r
  | .oth _ :: r => noGone r
  | .ins _ _ _ :: r => noGone r
structure CellsOk (K : PySem.W.Frag) (G H : Hp) (as : List Addr) (cs : List Cell) : Prop where
  ln : as.length = cs.length
  nd : as.Nodup
  ok : ∀ (j : Nat) (c : Cell) (a : Addr), cs[j]? = some c → as[j]? = some a → (∃ o, H a = some o) ∧ CellOk K G H a c
def RepR (K : PySem.W.Frag) (H G' H' : Hp) : RV → V → Prop
  | .dat d, v => Rep K G' d v
  | .new ds, v => ∃ a vs, v = .ref a ∧ H a = none ∧ G' a = none ∧ H' a = some (.lst vs) ∧ Reps K G' ds vs
abbrev PW0 := List AV → List Cell → (RV → List Cell → Prop) → (Addr → Prop) → Prop
/-- a def's promise by data: W tells what is asked of the arguments and what comes -/
def spG (K : PySem.W.Frag) (W : PW0) : Sp := fun vs H Q E => ∃ G as xs cs post exc, Same G H ∧ CellsOk K G H as cs ∧ RepAs K G as xs vs ∧ W xs cs post exc ∧
  (∀ r cs' v H' G', post r cs' → FrX as H H' → Same G G' → Same G' H' → NewG H G G' → CellsOk K G' H' as cs' → RepR K H G' H' r v → Q v H') ∧ (∀ C H', exc C → FrX as H H' → E (.ref C) none H')
section
variable {K : PySem.W.Frag} {F : Fx} {ρ : En} {k : AV → En → Prop} {kb : Bool → En → Prop} {ks : KS} {t u : TS} {ta tb te : TE} {tt tu : TT}
/-- what a def hands back: data, or a list that it made -/
inductive FinR (n : Nat) (ρ : En) : AV → RV → Prop
  | dat (d : D) : FinR n ρ (.dat d) (.dat d)
  | cel {j : Nat} {ds : List D} : n ≤ j → ρ.ce[j]? = some (.lst ds) → FinR n ρ (.cel j) (.new ds)
def KS.fin (n : Nat) (post : RV → List Cell → Prop) : KS where
  nx := fun ρ => noGone (ρ.ce.take n) = true ∧ post (.dat .non) (ρ.ce.take n)
  rt := fun x ρ => ∃ r, FinR n ρ x r ∧ noGone (ρ.ce.take n) = true ∧ post r (ρ.ce.take n)
theorem noGone_at {cs : List Cell} (h : noGone cs = true) : ∀ {j : Nat}, cs[j]? ≠ some .gone := by
  induction cs with
  | nil => intro j e; simp at e
  | cons c cs ih =>
    intro j e
    cases j with
    | zero => simp at e; subst e; rw [noGone] at h; cases h
    | succ j =>
      have h' : noGone cs = true := by
        cases c <;> first | (rw [noGone] at h; exact h) | (rw [noGone] at h; cases h)
      exact ih h' (by simpa using e)
theorem CellOk.none {G H : Hp} {a : Addr} {c : Cell} (h : CellOk K G H a c) (n : c ≠ .gone) : G a = none := by
  cases c with
  | gone => exact absurd rfl n
  | lst ds => exact h.1
  | drw => exact h.1
  | oth X => exact h.1
  | ins C ns ds => exact h.1
theorem RepAs.get {G : Hp} {as : List Addr} {xs : List AV} {vs : List V} (h : RepAs K G as xs vs) : ∀ {i : Nat} {x : AV}, xs[i]? = some x → ∃ v, vs[i]? = some v ∧ RepA K G as x v := by
  induction h with
  | nil => intro i x e; simp at e
  | cons a _ ih =>
    intro i x e
    cases i with
    | zero => simp at e; subst e; exact ⟨_, rfl, a⟩
    | succ i => obtain ⟨v, q, r⟩ := ih (i := i) (by simpa using e); exact ⟨v, by simpa using q, r⟩
/-- the slots at a def's begin -/
def En.start (n : Nat) (xs : List AV) (cs : List Cell) : En := ⟨xs.map some ++ List.replicate (n - xs.length) none, cs⟩
/-- a def's body by data -/
theorem enterG {N : List Str} {W : PW0} {vs : List V} {H : Hp} {Q : VK} {E : XK} {t : TS} (frv : V → Prop) (hfr : ∀ v H', frv v → Q v H') (h : spG K W vs H Q E) (body : ∀ F xs cs post, F.fr = frv → F.E = E → RepAs K F.G0 F.as0 xs vs → W xs cs post F.ex → WpS K F t (En.start N.length xs cs) (KS.fin cs.length post)) : t { nx := fun _ H' => Q .non H', rt := Q } (L2.start N vs) H := by
  obtain ⟨G, as, xs, cs, post, exc, gh, ok, rx, hw, hq, he⟩ := h
  have fr : ∀ H', Same (fun a => if a ∈ as then none else H a) H' → FrX as H H' := fun H' s a o na ha => s a o (by show (if a ∈ as then none else H a) = some o; rw [if_neg na]; exact ha)
  let F : Fx := ⟨fun a => if a ∈ as then none else H a, G, E, exc, fun C H' hc s => he C H' hc (fr H' s), frv, as⟩
  have ln := rx.length
  have e0 : EnvOk K F (En.start N.length xs cs) as (L2.start N vs) H G := by
    refine ⟨gh, fun a o h => ?_, fun a o h => .inl h, Same.refl _, ok.nd, List.prefix_refl _, ok.ln, fun j c a hc ha => ?_, ?_, fun i av hi => ?_⟩
    · have h' : (if a ∈ as then none else H a) = some o := h
      by_cases q : a ∈ as
      · rw [if_pos q] at h'; cases h'
      · rw [if_neg q] at h'; exact h'
    · refine ⟨?_, ok.ok j c a hc ha⟩
      show (if a ∈ as then none else H a) = none
      rw [if_pos (List.mem_of_getElem? ha)]
    · show (vs.map some ++ List.replicate (N.length - vs.length) none).length = (xs.map some ++ List.replicate (N.length - xs.length) none).length
      simp only [List.length_append, List.length_map, List.length_replicate]
      omega
    · have hi' : (xs.map some ++ List.replicate (N.length - xs.length) none)[i]? = some (some av) := hi
      by_cases q : i < xs.length
      · rw [List.getElem?_append_left (by rw [List.length_map]; exact q), List.getElem?_map] at hi'
        obtain ⟨x, hx, ex⟩ := Option.map_eq_some_iff.mp hi'
        cases ex
        obtain ⟨v, hv, r⟩ := rx.get hx
        refine ⟨v, ?_, r⟩
        show (vs.map some ++ List.replicate (N.length - vs.length) none)[i]? = some (some v)
        rw [List.getElem?_append_left (by rw [List.length_map]; omega), List.getElem?_map, hv]
        rfl
      · rw [List.getElem?_append_right (by rw [List.length_map]; omega), List.getElem?_replicate] at hi'
        split at hi' <;> cases hi'
  -- how it ends
  have fin : ∀ {ρ' : En} {as' : List Addr} {σ' : L2.St} {H' G' : Hp} {r : RV} {v : V}, EnvOk K F ρ' as' σ' H' G' → Gr G as G' as' → noGone (ρ'.ce.take cs.length) = true → post r (ρ'.ce.take cs.length) → RepR K H G' H' r v → Q v H' := by
    intro ρ' as' σ' H' G' r v e g ng hp rr
    obtain ⟨sg, rs, ea⟩ := g
    have lc : cs.length ≤ ρ'.ce.length := by rw [← e.ln, ea, List.length_append, ok.ln]; omega
    have lt : as.length = (ρ'.ce.take cs.length).length := by rw [List.length_take, ok.ln]; omega
    have ce : ∀ (j : Nat) (c : Cell) (a : Addr), (ρ'.ce.take cs.length)[j]? = some c → as[j]? = some a → ρ'.ce[j]? = some c ∧ as'[j]? = some a := fun j c a hc ha => by
      have hj : j < as.length := (List.getElem?_eq_some_iff.mp ha).1
      refine ⟨?_, by rw [ea, List.getElem?_append_left hj]; exact ha⟩
      rw [List.getElem?_take] at hc
      rw [if_pos (by rw [← ok.ln]; exact hj)] at hc
      exact hc
    refine hq r _ v H' G' hp (fr H' e.fh) sg e.gh (fun a o ha => ?_) ⟨lt, ok.nd, fun j c a hc ha => ?_⟩ rr
    · rcases e.fg a o ha with z | z
      · exact .inl z
      · refine .inr ?_
        have z' : (if a ∈ as then none else H a) = none := z
        by_cases q : a ∈ as
        · exfalso
          obtain ⟨j, hj⟩ := List.getElem?_of_mem q
          have hl : j < (ρ'.ce.take cs.length).length := by rw [← lt]; exact (List.getElem?_eq_some_iff.mp hj).1
          have hc := List.getElem?_eq_getElem hl
          obtain ⟨h1, h2⟩ := ce j _ a hc hj
          obtain ⟨_, _, okc⟩ := e.ce j _ a h1 h2
          have gn := CellOk.none okc fun z => noGone_at ng (by rw [hc, z])
          rw [gn] at ha
          cases ha
        · rw [if_neg q] at z'; exact z'
    · obtain ⟨h1, h2⟩ := ce j c a hc ha
      exact (e.ce j c a h1 h2).2
  refine body F xs cs post rfl rfl rx hw as _ H G e0 _ ⟨fun ρ' as' σ' H' G' ⟨ng, hp⟩ e g => fin (r := .dat .non) e g ng hp Rep.non, fun av ρ' v as' σ' H' G' ⟨r, fr', ng, hp⟩ e g ra => ?_, fun ρ' as' σ' H' G' h _ _ => h.elim, fun ρ' as' σ' H' G' h _ _ => h.elim, fun v H' z => hfr v H' z⟩
  cases fr' with
  | dat d => exact fin (r := .dat d) e g ng hp ra
  | @cel j ds nj hc =>
    obtain ⟨a, ha, rfl⟩ := ra
    refine fin (r := .new ds) e g ng hp ?_
    obtain ⟨fa, _, ga, ws, hw2, hr⟩ := e.ce j _ a hc ha
    refine ⟨a, ws, rfl, ?_, ga, hw2, hr⟩
    have z' : (if a ∈ as then none else H a) = none := fa
    by_cases q : a ∈ as
    · exfalso
      obtain ⟨i, hi⟩ := List.getElem?_of_mem q
      obtain ⟨_, rs, ea⟩ := g
      have hil : i < as.length := (List.getElem?_eq_some_iff.mp hi).1
      have hi2 : as'[i]? = some a := by rw [ea, List.getElem?_append_left hil]; exact hi
      have ij := (List.getElem?_inj (List.getElem?_eq_some_iff.mp hi2).1 e.nd).mp (hi2.trans ha.symm)
      rw [ok.ln] at hil
      omega
    · rw [if_neg q] at z'; exact z'
theorem enterF {N : List Str} {W : PW0} {vs : List V} {H : Hp} {Q : VK} {E : XK} {t : TS} (frv : V → Prop) (hfr : ∀ v H', frv v → Q v H') (h : spG K W vs H Q E) (body : ∀ F xs cs post, F.fr = frv → F.E = E → W xs cs post F.ex → WpS K F t (En.start N.length xs cs) (KS.fin cs.length post)) : t { nx := fun _ H' => Q .non H', rt := Q } (L2.start N vs) H := enterG frv hfr h fun F xs cs post hf hE _ hw => body F xs cs post hf hE hw
theorem enter {N : List Str} {W : PW0} {vs : List V} {H : Hp} {Q : VK} {E : XK} {t : TS} (h : spG K W vs H Q E) (body : ∀ F xs cs post, F.E = E → W xs cs post F.ex → WpS K F t (En.start N.length xs cs) (KS.fin cs.length post)) : t { nx := fun _ H' => Q .non H', rt := Q } (L2.start N vs) H := enterF (fun _ => False) (fun _ _ z => z.elim) h fun F xs cs post _ hE hw => body F xs cs post hE hw
/-! calls -/
theorem we_call {sp : Sp} {E : XK} {t : TA} (h : WpA K F t ρ fun xs ρ1 => WpSp K F sp (fun _ => E) xs ρ1 k) : WpE K F (tCall sp [] E t) ρ k := fun as σ H G e Q q =>
  h as σ H G e _ fun xs ρ1 vs as1 H1 G1 h1 e1 g1 r1 => by
    rw [List.append_nil]
    exact h1 as1 σ H1 G1 vs e1 r1 Q (q.imp g1 fun _ _ z => z)
theorem we_call1 {sp : Sp} {v : V} {x : AV} {E : XK} {t : TA} (hv : ∀ G as, RepA K G as x v) (h : WpA K F t ρ fun xs ρ1 => WpSp K F sp (fun _ => E) (xs ++ [x]) ρ1 k) : WpE K F (tCall sp [v] E t) ρ k := fun as σ H G e Q q =>
  h as σ H G e _ fun xs ρ1 vs as1 H1 G1 h1 e1 g1 r1 => h1 as1 σ H1 G1 _ e1 (r1.append (.cons (hv _ _) .nil)) Q (q.imp g1 fun _ _ z => z)
theorem we_callS {sp : Sp} {E : L2.St → XK} {t : TA} (h : WpA K F t ρ fun xs ρ1 => WpSp K F sp E xs ρ1 k) : WpE K F (tCallS sp E t) ρ k := fun as σ H G e Q q =>
  h as σ H G e _ fun xs ρ1 vs as1 H1 G1 h1 e1 g1 r1 => h1 as1 σ H1 G1 vs e1 r1 Q (q.imp g1 fun _ _ z => z)
theorem we_callK {sp : Sp} {gV : List V → List V → List V} {gA : List AV → List AV → List AV} {E : XK} {t tk : TA} (hg : ∀ G as xs ys vs ws, RepAs K G as xs vs → RepAs K G as ys ws → RepAs K G as (gA xs ys) (gV vs ws)) (h : WpA K F t ρ fun xs ρ1 => WpA K F tk ρ1 fun ys ρ2 => WpSp K F sp (fun _ => E) (gA xs ys) ρ2 k) : WpE K F (tCallK sp gV E t tk) ρ k := fun as σ H G e Q q =>
  h as σ H G e _ fun xs ρ1 vs as1 H1 G1 h1 e1 g1 r1 => h1 as1 σ H1 G1 e1 _ fun ys ρ2 ws as2 H2 G2 h2 e2 g2 r2 => h2 as2 σ H2 G2 _ e2 (hg _ _ _ _ _ _ (r1.mono g2) r2) Q (q.imp (g1.trans g2) fun _ _ z => z)
/-- a cell of a list that stands already -/
theorem EnvOk.ownC {as : List Addr} {σ : L2.St} {H G : Hp} {p : Addr} {vs : List V} {ds : List D} (e : EnvOk K F ρ as σ H G) (hp : H p = some (.lst vs)) (gp : G p = none) (fp : F.Fr p = none) (np : p ∉ as) (hr : Reps K G ds vs) : EnvOk K F (ρ.add ds) (as ++ [p]) σ H G := by
  have gr : Gr G as G (as ++ [p]) := ⟨Same.refl _, [p], rfl⟩
  refine ⟨e.gh, e.fh, e.fg, e.g0, ?_, e.pr.trans (List.prefix_append _ _), by show (as ++ [p]).length = (ρ.ce ++ [Cell.lst ds]).length; rw [List.length_append, List.length_append, e.ln]; rfl, fun j c a hc ha => ?_, e.sn, fun i av hi => ?_⟩
  · rw [List.nodup_append]
    refine ⟨e.nd, by simp, fun a ha b hb => ?_⟩
    rw [List.mem_singleton] at hb
    subst hb
    exact fun z => np (z ▸ ha)
  · have hc : (ρ.ce ++ [Cell.lst ds])[j]? = some c := hc
    by_cases hj : j < ρ.ce.length
    · rw [List.getElem?_append_left hj] at hc
      rw [List.getElem?_append_left (by rw [e.ln]; exact hj)] at ha
      exact e.ce j c a hc ha
    · have hj2 : ρ.ce.length ≤ j := by omega
      rw [List.getElem?_append_right hj2] at hc
      rw [List.getElem?_append_right (by rw [e.ln]; exact hj2), e.ln] at ha
      cases z : j - ρ.ce.length with
      | zero =>
        rw [z] at hc ha
        cases hc
        cases ha
        exact ⟨fp, ⟨_, hp⟩, gp, vs, hp, hr⟩
      | succ m => rw [z] at hc; simp at hc
  · obtain ⟨v, hv, r⟩ := e.sl i av hi
    exact ⟨v, hv, r.mono gr⟩
/-- arguments as data: cells are lent to be read -/
inductive AsD (ρ : En) : List AV → List D → Prop
  | nil : AsD ρ [] []
  | dat {d : D} {xs : List AV} {ds : List D} : AsD ρ xs ds → AsD ρ (.dat d :: xs) (d :: ds)
  | cel {j : Nat} {es : List D} {xs : List AV} {ds : List D} : ρ.ce[j]? = some (.lst es) → AsD ρ xs ds → AsD ρ (.cel j :: xs) (.lst es :: ds)
def nocel : List AV → Bool
  | [] => true
  | .cel _ :: _ => false
  | .dat _ :: r => nocel r
theorem nocel_mem {xs : List AV} (h : nocel xs = true) {j : Nat} : .cel j ∉ xs := by
  induction xs with
  | nil => simp
  | cons x xs ih =>
    cases x with
    | cel i => rw [nocel] at h; cases h
    | dat d => rw [nocel] at h; simp [ih h]
theorem AsD.mem {xs : List AV} {ds : List D} (h : AsD ρ xs ds) {j : Nat} (m : .cel j ∈ xs) : ∃ es, ρ.ce[j]? = some (.lst es) := by
  induction h with
  | nil => cases m
  | dat _ ih => rcases List.mem_cons.mp m with z | z; (cases z); exact ih z
  | cel hc _ ih => rcases List.mem_cons.mp m with z | z; (cases z; exact ⟨_, hc⟩); exact ih z
/-- what follows a call by data -/
def aft (ρ : En) (xs : List AV) (k : AV → En → Prop) : RV → Prop
  | .dat d => (nocel xs || hard d) = true ∧ k (.dat d) ρ
  | .new es => (nocel xs || hards es) = true ∧ k (.cel ρ.ce.length) (ρ.add es)
open Classical in
theorem wsp0 {W : PW0} {E : L2.St → XK} {xs : List AV} {ds : List D} {exc : Addr → Prop} (ha : AsD ρ xs ds) (hE : ∀ C as σ H G, exc C → EnvOk K F ρ as σ H G → E σ (.ref C) none H) (hw : W (ds.map .dat) [] (fun r _ => aft ρ xs k r) exc) : WpSp K F (spG K W) E xs ρ k := by
  intro as σ H G vs e rx Q q
  let B : Addr → Prop := fun b => ∃ j : Nat, .cel j ∈ xs ∧ as[j]? = some b
  have bcell : ∀ b, B b → G b = none ∧ ∃ ws, H b = some (.lst ws) := fun b ⟨j, m, hj⟩ => by
    obtain ⟨es, hc⟩ := ha.mem m
    obtain ⟨_, _, g, ws, hw, _⟩ := e.ce j _ b hc hj
    exact ⟨g, ws, hw⟩
  let G1 : Hp := fun b => if B b then H b else G b
  have g1 : ∀ b, B b → G1 b = H b := fun b h => if_pos h
  have g2 : ∀ b, ¬ B b → G1 b = G b := fun b h => if_neg h
  have s1 : Same G G1 := fun b o h => by
    rw [g2 b fun z => by rw [(bcell b z).1] at h; cases h]; exact h
  have h1 : Same G1 H := fun b o h => by
    by_cases z : B b
    · rw [g1 b z] at h; exact h
    · rw [g2 b z] at h; exact e.gh _ _ h
  have rd : RepAs K G1 [] (ds.map .dat) vs := by
    have main : ∀ (ys : List AV) (es : List D) (ws : List V), (∀ j, .cel j ∈ ys → .cel j ∈ xs) → AsD ρ ys es → RepAs K G as ys ws → RepAs K G1 [] (es.map .dat) ws := by
      intro ys es ws sub hd
      induction hd generalizing ws with
      | nil => intro r; cases r; exact .nil
      | dat _ ih =>
        intro r
        cases r with
        | cons a b => exact .cons (Rep.mono s1 _ _ a) (ih _ (fun j m => sub j (List.mem_cons_of_mem _ m)) b)
      | @cel j es2 ys2 ds2 hc _ ih =>
        intro r
        cases r with
        | cons a b =>
          obtain ⟨p, hp, rfl⟩ := a
          obtain ⟨_, _, g, us, hu, hr⟩ := e.ce j _ p hc hp
          refine .cons ?_ (ih _ (fun j m => sub j (List.mem_cons_of_mem _ m)) b)
          exact Rep.lst (by rw [g1 p ⟨j, sub j List.mem_cons_self, hp⟩]; exact hu) (Reps.mono s1 _ _ hr)
    exact main xs ds vs (fun _ m => m) ha rx
  refine ⟨G1, [], ds.map .dat, [], _, exc, h1, ⟨rfl, List.nodup_nil, fun j c a hc => by simp at hc⟩, rd, hw, ?_, ?_⟩
  · intro r cs' v H' G1' hp fr sg gh' nw _ rr
    have hh : Same H H' := fun a o h => fr a o (by simp) h
    let G' : Hp := fun b => if B b then none else G1' b
    have k1 : ∀ b, B b → G' b = none := fun b h => if_pos h
    have k2 : ∀ b, ¬ B b → G' b = G1' b := fun b h => if_neg h
    have sG : Same G G' := fun b o h => by
      have nb : ¬ B b := fun z => by rw [(bcell b z).1] at h; cases h
      rw [k2 b nb]; exact sg _ _ (s1 _ _ h)
    have keep : ∀ a o, G' a = some o → G a = some o ∨ H a = none := fun a o h => by
      by_cases z : B a
      · rw [k1 a z] at h; cases h
      · rw [k2 a z] at h
        rcases nw a o h with y | y
        · rw [g2 a z] at y; exact .inl y
        · exact .inr y
    have e' : EnvOk K F ρ as σ H' G' := by
      refine ⟨fun a o h => ?_, Same.trans e.fh hh, fun a o h => ?_, Same.trans e.g0 sG, e.nd, e.pr, e.ln, fun j c a hc hj => ?_, e.sn, fun i av hi => ?_⟩
      · by_cases z : B a
        · rw [k1 a z] at h; cases h
        · rw [k2 a z] at h; exact gh' _ _ h
      · rcases keep a o h with y | y
        · exact e.fg _ _ y
        · exact .inr (Same.none e.fh y)
      · obtain ⟨fa, ⟨o, ho⟩, ok⟩ := e.ce j c a hc hj
        refine ⟨fa, ⟨o, hh _ _ ho⟩, ?_⟩
        have gn : G a = none → G' a = none := fun g => by
          cases z : G' a with
          | none => rfl
          | some o2 =>
            rcases keep a o2 z with y | y
            · rw [g] at y; cases y
            · rw [ho] at y; cases y
        cases c with
        | gone => trivial
        | lst es => obtain ⟨g, ws, hw, r⟩ := ok; exact ⟨gn g, ws, hh _ _ hw, Reps.mono sG _ _ r⟩
        | ins C9 ns9 es => obtain ⟨g, dx9, ws, hw, ln9, r⟩ := ok; exact ⟨gn g, dx9, ws, hh _ _ hw, ln9, Reps.mono sG _ _ r⟩
        | drw => obtain ⟨g, ws, hw, r⟩ := ok; exact ⟨gn g, ws, hh _ _ hw, r⟩
        | oth X => obtain ⟨g, o9, hw, r⟩ := ok; exact ⟨gn g, o9, hh _ _ hw, X.mono (fun _ _ z => .inl (sG _ _ z)) r⟩
      · obtain ⟨v, hv, r⟩ := e.sl i av hi
        exact ⟨v, hv, r.mono ⟨sG, [], by simp⟩⟩
    have back : ∀ a o, G1' a = some o → G' a = some o ∨ ∃ xs, o = HO.lst xs := fun a o h => by
      by_cases z : B a
      · obtain ⟨_, ws, hw⟩ := bcell a z
        rw [sg a _ (by rw [g1 a z]; exact hw)] at h
        cases h
        exact .inr ⟨_, rfl⟩
      · exact .inl (by rw [k2 a z]; exact h)
    have all : nocel xs = true → Same G1' G' := fun nc a o h => by
      rw [k2 a fun ⟨j, m, _⟩ => nocel_mem nc m]; exact h
    cases r with
    | dat d =>
      obtain ⟨hc, hk⟩ := hp
      refine q _ ρ v as H' G' hk e' ⟨sG, [], by simp⟩ ?_
      rcases Bool.or_eq_true_iff.mp hc with z | z
      · exact Rep.mono (all z) _ _ rr
      · exact Rep.hard back _ _ z rr
    | new es =>
      obtain ⟨hc, hk⟩ := hp
      obtain ⟨p, ws, rfl, hp0, gp, hp1, hr⟩ := rr
      have np : p ∉ as := fun m => by
        obtain ⟨j, hj⟩ := List.getElem?_of_mem m
        have hl : j < ρ.ce.length := by rw [← e.ln]; exact (List.getElem?_eq_some_iff.mp hj).1
        obtain ⟨_, ⟨o, ho⟩, _⟩ := e.ce j _ p (List.getElem?_eq_getElem hl) hj
        rw [ho] at hp0
        cases hp0
      have nb : ¬ B p := fun ⟨j, _, hj⟩ => np (List.mem_of_getElem? hj)
      have hr' : Reps K G' es ws := by
        rcases Bool.or_eq_true_iff.mp hc with z | z
        · exact Reps.mono (all z) _ _ hr
        · exact Reps.hard back _ _ z hr
      exact q _ _ _ _ H' G' hk (e'.ownC hp1 (by rw [k2 p nb]; exact gp) (Same.none e.fh hp0) np hr') ⟨sG, [p], rfl⟩ (RepA.last e.ln)
  · intro C H' hc fr
    have hh : Same H H' := fun a o h => fr a o (by simp) h
    refine hE C as σ H' G hc ⟨Same.trans e.gh hh, Same.trans e.fh hh, e.fg, e.g0, e.nd, e.pr, e.ln, fun j c a hc hj => ?_, e.sn, e.sl⟩
    obtain ⟨fa, ⟨o, ho⟩, ok⟩ := e.ce j c a hc hj
    refine ⟨fa, ⟨o, hh _ _ ho⟩, ?_⟩
    cases c with
    | gone => trivial
    | lst es => obtain ⟨g, ws, hw, r⟩ := ok; exact ⟨g, ws, hh _ _ hw, r⟩
    | ins C9 ns9 es => obtain ⟨g, dx9, ws, hw, ln9, r⟩ := ok; exact ⟨g, dx9, ws, hh _ _ hw, ln9, r⟩
    | drw => obtain ⟨g, ws, hw, r⟩ := ok; exact ⟨g, ws, hh _ _ hw, r⟩
    | oth X => obtain ⟨g, o9, hw, r⟩ := ok; exact ⟨g, o9, hh _ _ hw, r⟩
/-- the same where the caller lets nothing out -/
theorem wspE {W : PW0} {E : L2.St → XK} {xs : List AV} {ds : List D} (ha : AsD ρ xs ds) (hw : W (ds.map .dat) [] (fun r _ => aft ρ xs k r) (fun _ => False)) : WpSp K F (spG K W) E xs ρ k := wsp0 ha (fun _ _ _ _ _ z => z.elim) hw
/-- and where it lets the callee's errors out -/
theorem wspX {W : PW0} {xs : List AV} {ds : List D} (ha : AsD ρ xs ds) (hw : W (ds.map .dat) [] (fun r _ => aft ρ xs k r) F.ex) : WpSp K F (spG K W) (fun _ => F.E) xs ρ k := wsp0 ha (fun C as σ H G h e => F.hE C H h e.fh) hw
/-- a cell is lent to be written -/
def lend : AV → AV
  | .cel _ => .cel 0
  | x => x
def onlyC (j : Nat) : List AV → Bool
  | [] => true
  | .cel i :: r => decide (i = j) && onlyC j r
  | .dat _ :: r => onlyC j r
def aft1 (ρ : En) (j : Nat) (k : AV → En → Prop) (r : RV) (cs : List Cell) : Prop := ∃ c, cs = [c] ∧ noGone cs = true ∧ match r with
  | .dat d => k (.dat d) (ρ.cell j c)
  | .new es => k (.cel ρ.ce.length) ((ρ.cell j c).add es)
theorem wsp1P {W : PW0} {E : L2.St → XK} {xs : List AV} {j : Nat} {c : Cell} {post : RV → List Cell → Prop} (hj : ρ.ce[j]? = some c) (hn : noGone [c] = true) (ho : onlyC j xs = true) (hw : W (xs.map lend) [c] post (fun _ => False)) (hpo : ∀ r cs, post r cs → aft1 ρ j k r cs) : WpSp K F (spG K W) E xs ρ k := by
  intro as σ H G vs e rx Q q
  have hl : j < as.length := by rw [e.ln]; exact (List.getElem?_eq_some_iff.mp hj).1
  obtain ⟨a, ha⟩ : ∃ a, as[j]? = some a := ⟨_, List.getElem?_eq_getElem hl⟩
  obtain ⟨fa, hx, ok⟩ := e.ce j c a hj ha
  have rl : RepAs K G [a] (xs.map lend) vs := by
    have main : ∀ (ys : List AV) (ws : List V), onlyC j ys = true → RepAs K G as ys ws → RepAs K G [a] (ys.map lend) ws := by
      intro ys
      induction ys with
      | nil => intro ws _ r; cases r; exact .nil
      | cons y ys ih =>
        intro ws ho r
        cases r with
        | cons r1 r2 =>
          cases y with
          | dat d => exact .cons (Rep.mono (Same.refl _) _ _ r1) (ih _ ho r2)
          | cel i =>
            rw [onlyC, Bool.and_eq_true] at ho
            have ei := of_decide_eq_true ho.1
            subst ei
            obtain ⟨p, hp, rfl⟩ := r1
            rw [ha] at hp
            cases hp
            exact .cons ⟨a, rfl, rfl⟩ (ih _ ho.2 r2)
    exact main xs vs ho rx
  refine ⟨G, [a], xs.map lend, [c], _, _, e.gh, ⟨rfl, by simp, fun i c2 b hc hb => ?_⟩, rl, hw, ?_, fun _ _ z => z.elim⟩
  · cases i with
    | zero => simp at hc hb; subst hc hb; exact ⟨hx, ok⟩
    | succ i => simp at hc
  · rintro r cs' v H' G' hp0 fr sG gh' nw ck rr
    obtain ⟨c', rfl, ng, hp⟩ := hpo r cs' hp0
    have fr' : ∀ b o, b ≠ a → H b = some o → H' b = some o := fun b o n h => fr b o (by simpa using n) h
    obtain ⟨hx', ok'⟩ := ck.ok 0 c' a rfl rfl
    have e' : EnvOk K F (ρ.cell j c') as σ H' G' := by
      refine ⟨gh', fun b o h => fr' b o (ne_of_none h fa) (e.fh _ _ h), fun b o h => ?_, Same.trans e.g0 sG, e.nd, e.pr, by rw [e.ln]; exact (List.length_set).symm, fun i c2 b hc hb => ?_, e.sn, fun i av hi => ?_⟩
      · rcases nw b o h with y | y
        · exact e.fg _ _ y
        · exact .inr (Same.none e.fh y)
      · have hc' : (ρ.ce.set j c')[i]? = some c2 := hc
        by_cases hij : j = i
        · subst hij
          rw [List.getElem?_set_self (by rw [← e.ln]; exact hl)] at hc'
          cases hc'
          rw [ha] at hb
          cases hb
          exact ⟨fa, hx', ok'⟩
        · rw [List.getElem?_set_ne hij] at hc'
          obtain ⟨fb, ⟨o, ho⟩, okb⟩ := e.ce i c2 b hc' hb
          have nb : b ≠ a := fun z => by
            subst z
            exact hij ((List.getElem?_inj (List.getElem?_eq_some_iff.mp ha).1 e.nd).mp (ha.trans hb.symm))
          refine ⟨fb, ⟨o, fr' _ _ nb ho⟩, ?_⟩
          have gn : G b = none → G' b = none := fun g => by
            cases z : G' b with
            | none => rfl
            | some o2 =>
              rcases nw b o2 z with y | y
              · rw [g] at y; cases y
              · rw [ho] at y; cases y
          cases c2 with
          | gone => trivial
          | lst es => obtain ⟨g, ws, hw, r⟩ := okb; exact ⟨gn g, ws, fr' _ _ nb hw, Reps.mono sG _ _ r⟩
          | ins C9 ns9 es => obtain ⟨g, dx9, ws, hw, ln9, r⟩ := okb; exact ⟨gn g, dx9, ws, fr' _ _ nb hw, ln9, Reps.mono sG _ _ r⟩
          | drw => obtain ⟨g, ws, hw, r⟩ := okb; exact ⟨gn g, ws, fr' _ _ nb hw, r⟩
          | oth X => obtain ⟨g, o9, hw, r⟩ := okb; exact ⟨gn g, o9, fr' _ _ nb hw, X.mono (fun _ _ z => .inl (sG _ _ z)) r⟩
      · obtain ⟨v, hv, r⟩ := e.sl i av hi
        exact ⟨v, hv, r.mono ⟨sG, [], by simp⟩⟩
    have eln : as.length = (ρ.cell j c').ce.length := e'.ln
    cases r with
    | dat d => exact q _ _ v as H' G' hp e' ⟨sG, [], by simp⟩ rr
    | new es =>
      obtain ⟨p, ws, rfl, hp0, gp, hp1, hr⟩ := rr
      have np : p ∉ as := fun m => by
        obtain ⟨i, hi⟩ := List.getElem?_of_mem m
        have hil : i < ρ.ce.length := by rw [← e.ln]; exact (List.getElem?_eq_some_iff.mp hi).1
        obtain ⟨_, ⟨o, ho⟩, _⟩ := e.ce i _ p (List.getElem?_eq_getElem hil) hi
        rw [ho] at hp0
        cases hp0
      exact q _ _ _ _ H' G' hp (e'.ownC hp1 gp (Same.none e.fh hp0) np hr) ⟨sG, [p], rfl⟩ (RepA.last e.ln)
theorem wsp1 {W : PW0} {E : L2.St → XK} {xs : List AV} {j : Nat} {c : Cell} (hj : ρ.ce[j]? = some c) (hn : noGone [c] = true) (ho : onlyC j xs = true) (hw : W (xs.map lend) [c] (fun r cs => aft1 ρ j k r cs) (fun _ => False)) : WpSp K F (spG K W) E xs ρ k := wsp1P hj hn ho hw fun _ _ z => z
/-- one cell lent to be written, others to be read -/
inductive AsL (ρ : En) (j : Nat) : List AV → List AV → Prop
  | nil : AsL ρ j [] []
  | dat {d : D} {xs ys : List AV} : AsL ρ j xs ys → AsL ρ j (.dat d :: xs) (.dat d :: ys)
  | own {xs ys : List AV} : AsL ρ j xs ys → AsL ρ j (.cel j :: xs) (.cel 0 :: ys)
  | cel {i : Nat} {es : List D} {xs ys : List AV} : i ≠ j → ρ.ce[i]? = some (.lst es) → AsL ρ j xs ys → AsL ρ j (.cel i :: xs) (.dat (.lst es) :: ys)
theorem AsL.mem {j : Nat} {xs ys : List AV} (h : AsL ρ j xs ys) {i : Nat} (m : .cel i ∈ xs) : i = j ∨ ∃ es, ρ.ce[i]? = some (.lst es) := by
  induction h with
  | nil => cases m
  | dat _ ih => rcases List.mem_cons.mp m with z | z; (cases z); exact ih z
  | own _ ih => rcases List.mem_cons.mp m with z | z; (cases z; exact .inl rfl); exact ih z
  | cel _ hc _ ih => rcases List.mem_cons.mp m with z | z; (cases z; exact .inr ⟨_, hc⟩); exact ih z
def aft2 (ρ : En) (j : Nat) (k : AV → En → Prop) (r : RV) (cs : List Cell) : Prop := cs = [.drw] ∧ match r with
  | .dat d => hard d = true ∧ k (.dat d) (ρ.cell j .drw)
  | .new es => hards es = true ∧ k (.cel ρ.ce.length) ((ρ.cell j .drw).add es)
open Classical in
theorem wsp2P {W : PW0} {E : L2.St → XK} {xs ys : List AV} {j : Nat} {c : Cell} {post : RV → List Cell → Prop} (hj : ρ.ce[j]? = some c) (hn : noGone [c] = true) (ha : AsL ρ j xs ys) (hw : W ys [c] post (fun _ => False)) (hpo : ∀ r cs, post r cs → aft2 ρ j k r cs) : WpSp K F (spG K W) E xs ρ k := by
  intro as σ H G vs e rx Q q
  have hl : j < as.length := by rw [e.ln]; exact (List.getElem?_eq_some_iff.mp hj).1
  obtain ⟨a, haj⟩ : ∃ a, as[j]? = some a := ⟨_, List.getElem?_eq_getElem hl⟩
  obtain ⟨fa, hx, ok⟩ := e.ce j c a hj haj
  have cg : c ≠ .gone := fun z => by subst z; rw [noGone] at hn; cases hn
  have apart : ∀ {i : Nat} {b : Addr}, i ≠ j → as[i]? = some b → b ≠ a := fun ne hb z => by
    subst z
    exact ne ((List.getElem?_inj (List.getElem?_eq_some_iff.mp hb).1 e.nd).mp (hb.trans haj.symm))
  let B : Addr → Prop := fun b => ∃ i : Nat, i ≠ j ∧ .cel i ∈ xs ∧ as[i]? = some b
  have bcell : ∀ b, B b → G b = none ∧ ∃ ws, H b = some (.lst ws) := fun b ⟨i, ne, m, hi⟩ => by
    rcases ha.mem m with z | ⟨es, hc⟩
    · exact absurd z ne
    obtain ⟨_, _, g, ws, hw, _⟩ := e.ce i _ b hc hi
    exact ⟨g, ws, hw⟩
  have nBa : ¬ B a := fun ⟨i, ne, _, hi⟩ => apart ne hi rfl
  let G1 : Hp := fun b => if B b then H b else G b
  have g1 : ∀ b, B b → G1 b = H b := fun b h => if_pos h
  have g2 : ∀ b, ¬ B b → G1 b = G b := fun b h => if_neg h
  have s1 : Same G G1 := fun b o h => by
    rw [g2 b fun z => by rw [(bcell b z).1] at h; cases h]; exact h
  have h1 : Same G1 H := fun b o h => by
    by_cases z : B b
    · rw [g1 b z] at h; exact h
    · rw [g2 b z] at h; exact e.gh _ _ h
  have ok1 : CellOk K G1 H a c := by
    cases c with
    | gone => trivial
    | lst es => obtain ⟨g, ws, hw, r⟩ := ok; exact ⟨by rw [g2 a nBa]; exact g, ws, hw, Reps.mono s1 _ _ r⟩
    | ins C9 ns9 es => obtain ⟨g, dx9, ws, hw, ln9, r⟩ := ok; exact ⟨by rw [g2 a nBa]; exact g, dx9, ws, hw, ln9, Reps.mono s1 _ _ r⟩
    | drw => obtain ⟨g, ws, hw, r⟩ := ok; exact ⟨by rw [g2 a nBa]; exact g, ws, hw, r⟩
    | oth X => obtain ⟨g, o9, hw, r⟩ := ok; exact ⟨by rw [g2 a nBa]; exact g, o9, hw, X.mono (fun _ _ z => .inl (s1 _ _ z)) r⟩
  have rd : RepAs K G1 [a] ys vs := by
    have main : ∀ (zs es : List AV) (ws : List V), (∀ i, .cel i ∈ zs → .cel i ∈ xs) → AsL ρ j zs es → RepAs K G as zs ws → RepAs K G1 [a] es ws := by
      intro zs es ws sub hd
      induction hd generalizing ws with
      | nil => intro r; cases r; exact .nil
      | dat _ ih =>
        intro r
        cases r with
        | cons a b => exact .cons (Rep.mono s1 _ _ a) (ih _ (fun j m => sub j (List.mem_cons_of_mem _ m)) b)
      | own _ ih =>
        intro r
        cases r with
        | cons r1 b =>
          obtain ⟨p, hp, rfl⟩ := r1
          rw [haj] at hp
          cases hp
          exact .cons ⟨a, rfl, rfl⟩ (ih _ (fun j m => sub j (List.mem_cons_of_mem _ m)) b)
      | @cel i es2 ys2 ds2 ne hc _ ih =>
        intro r
        cases r with
        | cons r1 b =>
          obtain ⟨p, hp, rfl⟩ := r1
          obtain ⟨_, _, g, us, hu, hr⟩ := e.ce i _ p hc hp
          refine .cons ?_ (ih _ (fun j m => sub j (List.mem_cons_of_mem _ m)) b)
          exact Rep.lst (by rw [g1 p ⟨i, ne, sub i List.mem_cons_self, hp⟩]; exact hu) (Reps.mono s1 _ _ hr)
    exact main xs ys vs (fun _ m => m) ha rx
  refine ⟨G1, [a], ys, [c], _, _, h1, ⟨rfl, by simp, fun i c2 b hc hb => ?_⟩, rd, hw, ?_, fun _ _ z => z.elim⟩
  · cases i with
    | zero => simp at hc hb; subst hc hb; exact ⟨hx, ok1⟩
    | succ i => simp at hc
  rintro r cs' v H' G1' hp0 fr sg gh' nw ck rr
  obtain ⟨rfl, hp⟩ := hpo r cs' hp0
  have fr' : ∀ b o, b ≠ a → H b = some o → H' b = some o := fun b o n h => fr b o (by simpa using n) h
  obtain ⟨hx', ok'⟩ := ck.ok 0 .drw a rfl rfl
  let G' : Hp := fun b => if B b then none else G1' b
  have k1 : ∀ b, B b → G' b = none := fun b h => if_pos h
  have k2 : ∀ b, ¬ B b → G' b = G1' b := fun b h => if_neg h
  have sG : Same G G' := fun b o h => by
    have nb : ¬ B b := fun z => by rw [(bcell b z).1] at h; cases h
    rw [k2 b nb]; exact sg _ _ (s1 _ _ h)
  have keep : ∀ a o, G' a = some o → G a = some o ∨ H a = none := fun a o h => by
    by_cases z : B a
    · rw [k1 a z] at h; cases h
    · rw [k2 a z] at h
      rcases nw a o h with y | y
      · rw [g2 a z] at y; exact .inl y
      · exact .inr y
  have back : ∀ a o, G1' a = some o → G' a = some o ∨ ∃ xs, o = HO.lst xs := fun a o h => by
    by_cases z : B a
    · obtain ⟨_, ws, hw⟩ := bcell a z
      rw [sg a _ (by rw [g1 a z]; exact hw)] at h
      cases h
      exact .inr ⟨_, rfl⟩
    · exact .inl (by rw [k2 a z]; exact h)
  have gn : ∀ {b : Addr} {o : HO}, H b = some o → G b = none → G' b = none := fun {b o} ho g => by
    cases z : G' b with
    | none => rfl
    | some o2 =>
      rcases keep b o2 z with y | y
      · rw [g] at y; cases y
      · rw [ho] at y; cases y
  have okc : CellOk K G' H' a .drw → EnvOk K F (ρ.cell j .drw) as σ H' G' := fun okk => by
    refine ⟨fun a o h => ?_, fun b o h => fr' b o (ne_of_none h fa) (e.fh _ _ h), fun b o h => ?_, Same.trans e.g0 sG, e.nd, e.pr, by rw [e.ln]; exact (List.length_set).symm, fun i c2 b hc hb => ?_, e.sn, fun i av hi => ?_⟩
    · by_cases z : B a
      · rw [k1 a z] at h; cases h
      · rw [k2 a z] at h; exact gh' _ _ h
    · rcases keep b o h with y | y
      · exact e.fg _ _ y
      · exact .inr (Same.none e.fh y)
    · have hc' : (ρ.ce.set j .drw)[i]? = some c2 := hc
      by_cases hij : j = i
      · subst hij
        rw [List.getElem?_set_self (by rw [← e.ln]; exact hl)] at hc'
        cases hc'
        rw [haj] at hb
        cases hb
        exact ⟨fa, hx', okk⟩
      · rw [List.getElem?_set_ne hij] at hc'
        obtain ⟨fb, ⟨o, ho⟩, okb⟩ := e.ce i c2 b hc' hb
        have nb : b ≠ a := apart (fun z => hij z.symm) hb
        refine ⟨fb, ⟨o, fr' _ _ nb ho⟩, ?_⟩
        cases c2 with
        | gone => trivial
        | lst es => obtain ⟨g, ws, hw, r⟩ := okb; exact ⟨gn ho g, ws, fr' _ _ nb hw, Reps.mono sG _ _ r⟩
        | ins C9 ns9 es => obtain ⟨g, dx9, ws, hw, ln9, r⟩ := okb; exact ⟨gn ho g, dx9, ws, fr' _ _ nb hw, ln9, Reps.mono sG _ _ r⟩
        | drw => obtain ⟨g, ws, hw, r⟩ := okb; exact ⟨gn ho g, ws, fr' _ _ nb hw, r⟩
        | oth X => obtain ⟨g, o9, hw, r⟩ := okb; exact ⟨gn ho g, o9, fr' _ _ nb hw, X.mono (fun _ _ z => .inl (sG _ _ z)) r⟩
    · obtain ⟨v, hv, r⟩ := e.sl i av hi
      exact ⟨v, hv, r.mono ⟨sG, [], by simp⟩⟩
  have gA : G1' a = none → G' a = none := fun z => by rw [k2 a nBa]; exact z
  have finish : EnvOk K F (ρ.cell j .drw) as σ H' G' → Q v H' := fun e' => by
    cases r with
    | dat d => exact q _ _ v as H' G' hp.2 e' ⟨sG, [], by simp⟩ (Rep.hard back _ _ hp.1 rr)
    | new es =>
      obtain ⟨p, ws, rfl, hp0, gp, hp1, hr⟩ := rr
      have np : p ∉ as := fun m => by
        obtain ⟨i, hi⟩ := List.getElem?_of_mem m
        have hil : i < ρ.ce.length := by rw [← e.ln]; exact (List.getElem?_eq_some_iff.mp hi).1
        obtain ⟨_, ⟨o, ho⟩, _⟩ := e.ce i _ p (List.getElem?_eq_getElem hil) hi
        rw [ho] at hp0
        cases hp0
      have nb : ¬ B p := fun ⟨i, _, _, hi⟩ => np (List.mem_of_getElem? hi)
      exact q _ _ _ _ H' G' hp.2 (e'.ownC hp1 (by rw [k2 p nb]; exact gp) (Same.none e.fh hp0) np (Reps.hard back _ _ hp.1 hr)) ⟨sG, [p], rfl⟩ (RepA.last e.ln)
  obtain ⟨g, ws, hw, r⟩ := ok'
  exact finish (okc ⟨gA g, ws, hw, r⟩)
end
section
variable {K : PySem.W.Frag} {F : Fx} {ρ : En} {k : AV → En → Prop}
def aftD (ρ : En) (j : Nat) (xs : List AV) (k : AV → En → Prop) : RV → Prop
  | .dat d => (onlyC j xs || hard d) = true ∧ k (.dat d) ρ
  | .new es => (onlyC j xs || hards es) = true ∧ k (.cel ρ.ce.length) (ρ.add es)
theorem AsL.lend {j : Nat} {xs ys : List AV} (h : AsL ρ j xs ys) (o : onlyC j xs = true) : ys = xs.map LK.lend := by
  induction h with
  | nil => rfl
  | dat _ ih => rw [ih o]; rfl
  | own _ ih => rw [onlyC, Bool.and_eq_true] at o; rw [ih o.2]; rfl
  | cel ne _ _ ih => rw [onlyC, Bool.and_eq_true] at o; exact absurd (of_decide_eq_true o.1) ne
/-- a call that draws from the state at j -/
theorem wspD {W : PW0} {E : L2.St → XK} {xs ys : List AV} {j : Nat} (hj : ρ.ce[j]? = some .drw) (ha : AsL ρ j xs ys) (hw : W ys [.drw] (fun r cs => cs = [.drw] ∧ aftD ρ j xs k r) (fun _ => False)) : WpSp K F (spG K W) E xs ρ k := by
  have es : ρ.cell j .drw = ρ := by
    obtain ⟨sl, ce⟩ := ρ
    show En.mk sl (ce.set j .drw) = ⟨sl, ce⟩
    have hl : j < ce.length := (List.getElem?_eq_some_iff.mp hj).1
    have he : ce[j] = .drw := (List.getElem?_eq_some_iff.mp hj).2
    rw [← he, List.set_getElem_self]
  cases o : onlyC j xs with
  | true =>
    refine wsp1P hj rfl o (by rw [← ha.lend o]; exact hw) ?_
    rintro r cs ⟨rfl, h⟩
    refine ⟨.drw, rfl, rfl, ?_⟩
    cases r with
    | dat d => rw [es]; exact h.2
    | new es2 => rw [es]; exact h.2
  | false =>
    refine wsp2P hj rfl ha hw ?_
    rintro r cs ⟨rfl, h⟩
    refine ⟨rfl, ?_⟩
    cases r with
    | dat d =>
      obtain ⟨h1, h2⟩ := h
      rw [o, Bool.false_or] at h1
      rw [es]
      exact ⟨h1, h2⟩
    | new es2 =>
      obtain ⟨h1, h2⟩ := h
      rw [o, Bool.false_or] at h1
      rw [es]
      exact ⟨h1, h2⟩
end
theorem spG_len {K : PySem.W.Frag} {W : PW0} {vs : List V} {H : Hp} {Q : VK} {E : XK} {n : Nat} (h : spG K W vs H Q E) (hl : ∀ xs cs post exc, W xs cs post exc → xs.length = n) : vs.length = n := by
  obtain ⟨G, as, xs, cs, post, exc, _, _, rx, hw, _⟩ := h
  rw [rx.length]
  exact hl _ _ _ _ hw
/-! ### rules of the data layer: kinds, ==, comprehensions, errors -/
section
variable {K : PySem.W.Frag} {F : Fx} {ρ : En} {k : AV → En → Prop} {kb : Bool → En → Prop} {ks : KS} {t u : TS} {ta tb te : TE} {tt tu : TT}
/-- the built-in class of data -/
def tyD : D → Option String
  | .non => some "NoneType" | .bl _ => some "bool" | .int _ => some "int" | .str _ => some "str" | .tup _ => some "tuple" | .lst _ => some "list" | .scr _ => some "list" | .dic => some "dict" | _ => none
theorem SqL.ty {H : Hp} {a : Addr} {vs : List V} (h : SqL K H a vs) : TyX K H (.ref a) (.type "list") := by
  rcases h with (h | ⟨o, h⟩) | ⟨o, its, n, h1, h2, _⟩
  · exact .base (.lst h)
  · exact .base (.frz h)
  · exact .kList h1 h2
theorem SqT.ty {H : Hp} {a : Addr} {vs : List V} (h : SqT K H a vs) : TyX K H (.ref a) (.type "tuple") := by
  rcases h with (h | ⟨o, h⟩) | ⟨o, its, n, h1, h2, _⟩
  · exact .base (.tup h)
  · exact .fTuple h
  · exact .kTuple h1 h2
theorem tyD_rep {H G : Hp} {d : D} {v : V} {T : String} (gh : Same G H) (r : Rep K G d v) (h : tyD d = some T) : TyX K H v (.type T) := by
  cases d with
  | non => cases h; cases r; exact .base .non
  | bl b => cases h; cases r; exact .base (.bl b)
  | int i => cases h; cases r; exact .base (.int i)
  | str x => cases h; cases r; exact .base (.str x)
  | tup ds => cases h; obtain ⟨a, vs, rfl, hs, _⟩ := Rep.tupE r; exact SqT.ty (Same.seqT gh hs)
  | lst ds => cases h; obtain ⟨a, vs, rfl, hs, _⟩ := Rep.lstE r; exact SqL.ty (SqL.of (gh _ _ hs))
  | scr ds => cases h; obtain ⟨a, vs, rfl, hs, _⟩ := Rep.scrE r; exact SqL.ty (Same.seq gh hs)
  | obj C ns ds => cases h
  | dic => cases h; obtain ⟨a, kvs, rfl, hs⟩ := Rep.dicE r; exact .base (.dK (gh _ _ hs))
  | ty n => cases h
  | cls C => cases h
/-- isinstance by built-in classes -/
def isT (T : String) (d : D) : Bool := match tyD d with
  | some "int" => T == "int"
  | some "bool" => T == "int" || T == "bool"
  | some s => T == s
  | none => false
def isA (T : String) : AV → Bool
  | .dat d => isT T d
  | .cel _ => T == "list"
theorem wc_isiB {T s : String} {d : D} {b : Bool} (h1 : tyD d = some s) (h2 : kitB s T = some b) (hk : k (.dat (.bl b)) ρ) : WpC K F (rIsi K) [.dat d, .dat (.ty T)] ρ k := fun as σ H G vs e r Q q => by
  cases r with
  | cons r1 c =>
    cases c with
    | cons r2 c =>
      cases c
      cases (show Rep K G (.ty T) _ from r2)
      exact ⟨_, _, _, _, b, rfl, .ty _, tyD_rep e.gh r1 h1, kit_ty h2, q _ ρ _ as H G hk e .refl (Rep.bl _)⟩
theorem wc_isi {T : String} {d : D} (hT : T ∈ ["int", "bool", "str", "tuple", "list"]) (hd : (tyD d).isSome = true) (hk : k (.dat (.bl (isT T d))) ρ) : WpC K F (rIsi K) [.dat d, .dat (.ty T)] ρ k := by
  have go : ∀ s, tyD d = some s → kitB s T = some (isT T d) → WpC K F (rIsi K) [.dat d, .dat (.ty T)] ρ k := fun s h1 h2 => wc_isiB h1 h2 hk
  simp only [List.mem_cons, List.not_mem_nil, or_false] at hT
  cases d <;> first
    | (exact Bool.noConfusion (show false = true from hd))
    | (refine go _ rfl ?_; rcases hT with rfl | rfl | rfl | rfl | rfl <;> (simp only [isT, tyD]; decide +kernel))
theorem wc_isiC {T : String} {j : Nat} {ds : List D} (hT : T ∈ ["int", "bool", "str", "tuple", "list"]) (hc : ρ.ce[j]? = some (.lst ds)) (hk : k (.dat (.bl (T == "list"))) ρ) : WpC K F (rIsi K) [.cel j, .dat (.ty T)] ρ k := fun as σ H G vs e r Q q => by
  cases r with
  | cons r1 c =>
    cases c with
    | cons r2 c =>
      cases c
      cases (show Rep K G (.ty T) _ from r2)
      obtain ⟨a, ha, rfl⟩ := r1
      obtain ⟨_, _, _, ws, hw, _⟩ := e.ce j _ a hc ha
      have h2 : kitB "list" T = some (T == "list") := by
        simp only [List.mem_cons, List.not_mem_nil, or_false] at hT
        rcases hT with rfl | rfl | rfl | rfl | rfl <;> decide +kernel
      exact ⟨_, _, _, _, _, rfl, .ty _, .base (.lst hw), kit_ty h2, q _ ρ _ as H G hk e .refl (Rep.bl _)⟩
/-! == -/
mutual
def py : D → PyData
  | .non => .none
  | .bl b => .bool b
  | .int i => .int i
  | .str x => .str x
  | .tup ds => .tuple (pys ds)
  | .lst ds => .list (pys ds)
  | .scr ds => .list (pys ds)
  | .obj _ _ _ => .none
  | .dic => .none
  | .ty _ => .none
  | .cls _ => .none
def pys : List D → List PyData
  | [] => []
  | d :: ds => py d :: pys ds
end
mutual
/-- data of at most this depth that == may look at -/
def fine : Nat → D → Bool
  | _, .non => true
  | _, .bl _ => true
  | _, .int _ => true
  | _, .str x => PyData.strOk x
  | n + 1, .tup ds => fines n ds
  | n + 1, .lst ds => fines n ds
  | n + 1, .scr ds => fines n ds
  | _, _ => false
def fines : Nat → List D → Bool
  | _, [] => true
  | n, d :: ds => fine n d && fines n ds
end
mutual
theorem fine_dp {G : Hp} : ∀ (n : Nat) (d : D) (v : V), fine n d = true → Rep K G d v → Dp K G v (py d) ∧ PyData.canLay0 (py d) = true ∧ PyData.depth (py d) ≤ n
  | _, .non, _, _, r => by cases r; exact ⟨.non, rfl, by simp [py, PyData.depth]⟩
  | _, .bl _, _, _, r => by cases r; exact ⟨.bl _, rfl, by simp [py, PyData.depth]⟩
  | _, .int _, _, _, r => by cases r; exact ⟨.int _, rfl, by simp [py, PyData.depth]⟩
  | n, .str x, _, h, r => by
    cases r
    refine ⟨.str _, ?_, by simp [py, PyData.depth]⟩
    have h' : PyData.strOk x = true := by cases n <;> (rw [fine] at h; exact h)
    simp [py, PyData.canLay0, h']
  | n + 1, .tup ds, _, h, r => by
    cases r with
    | tup a b =>
      obtain ⟨x, y, z⟩ := fine_dps n ds _ (by rw [fine] at h; exact h) b
      exact ⟨.tup a x, by simp [py, PyData.canLay0, y], by simp [py, PyData.depth]; omega⟩
  | n + 1, .lst ds, _, h, r => by
    cases r with
    | lst a b =>
      obtain ⟨x, y, z⟩ := fine_dps n ds _ (by rw [fine] at h; exact h) b
      exact ⟨.lst (SqL.of a) x, by simp [py, PyData.canLay0, y], by simp [py, PyData.depth]; omega⟩
  | n + 1, .scr ds, _, h, r => by
    cases r with
    | scr a b =>
      obtain ⟨x, y, z⟩ := fine_dps n ds _ (by rw [fine] at h; exact h) b
      exact ⟨.lst a x, by simp [py, PyData.canLay0, y], by simp [py, PyData.depth]; omega⟩
  | 0, .tup ds, _, h, r => by simp [fine] at h
  | 0, .lst ds, _, h, r => by simp [fine] at h
  | 0, .scr ds, _, h, r => by simp [fine] at h
  | n, .obj _ _ _, _, h, r => by cases n <;> simp [fine] at h
  | n, .dic, _, h, r => by cases n <;> simp [fine] at h
  | n, .ty _, _, h, r => by cases n <;> simp [fine] at h
  | n, .cls _, _, h, r => by cases n <;> simp [fine] at h
theorem fine_dps {G : Hp} : ∀ (n : Nat) (ds : List D) (vs : List V), fines n ds = true → Reps K G ds vs → DpAll K G vs (pys ds) ∧ PyData.canLayAll0 (pys ds) = true ∧ PyData.depthAll (pys ds) ≤ n
  | _, [], _, _, r => by cases r; exact ⟨.nil, rfl, by simp [pys, PyData.depthAll]⟩
  | n, d :: ds, _, h, r => by
    cases r with
    | cons a b =>
      have h' : fine n d = true ∧ fines n ds = true := by cases n <;> (rw [fines, Bool.and_eq_true] at h; exact h)
      obtain ⟨x, y, z⟩ := fine_dp n d _ h'.1 a
      obtain ⟨x2, y2, z2⟩ := fine_dps n ds _ h'.2 b
      exact ⟨.cons x x2, by simp [pys, PyData.canLayAll0, y, y2], by simp [pys, PyData.depthAll]; omega⟩
end
def eqD (d e : D) : Bool := PyData.eqv (py d) (py e)
/-- data of a value: a cell is its list -/
inductive OfD (ρ : En) : AV → D → Prop
  | dat (d : D) : OfD ρ (.dat d) d
  | cel {j : Nat} {ds : List D} : ρ.ce[j]? = some (.lst ds) → OfD ρ (.cel j) (.lst ds)
theorem OfD.dp {as : List Addr} {σ : L2.St} {H G : Hp} {x : AV} {d : D} {v : V} {n : Nat} (e : EnvOk K F ρ as σ H G) (h : OfD ρ x d) (r : RepA K G as x v) (hf : fine n d = true) (hn : n ≤ 64) : Dp K H v (py d) ∧ SeqAt.shaped (py d) = true := by
  have rr : Rep K H d v := by
    cases h with
    | dat => exact Rep.mono e.gh _ _ r
    | cel hc =>
      obtain ⟨a, ha, rfl⟩ := r
      obtain ⟨_, _, _, ws, hw, hr⟩ := e.ce _ _ a hc ha
      exact .lst hw (Reps.mono e.gh _ _ hr)
  obtain ⟨x, y, z⟩ := fine_dp n d v hf rr
  refine ⟨x, ?_⟩
  unfold SeqAt.shaped
  rw [y, decide_eq_true (by omega : PyData.depth (py d) ≤ 64)]
  rfl
theorem wr_eqD {x y : AV} {d e : D} (n : Nat) (hx : OfD ρ x d) (hy : OfD ρ y e) (h1 : fine n d = true) (h2 : fine n e = true) (hn : n ≤ 64) (hk : k (.dat (.bl (eqD d e))) ρ) : WpR K F (rEqD K) x y ρ k := fun as σ H G vx vy en r1 r2 Q q => by
  obtain ⟨a, b⟩ := hx.dp en r1 h1 hn
  obtain ⟨a2, b2⟩ := hy.dp en r2 h2 hn
  exact ⟨_, _, a, a2, b, b2, q _ ρ _ as H G hk en .refl (Rep.bl _)⟩
theorem wr_neD {x y : AV} {d e : D} (n : Nat) (hx : OfD ρ x d) (hy : OfD ρ y e) (h1 : fine n d = true) (h2 : fine n e = true) (hn : n ≤ 64) (hk : k (.dat (.bl (!eqD d e))) ρ) : WpR K F (rNeD K) x y ρ k := fun as σ H G vx vy en r1 r2 Q q => by
  obtain ⟨a, b⟩ := hx.dp en r1 h1 hn
  obtain ⟨a2, b2⟩ := hy.dp en r2 h2 hn
  exact ⟨_, _, a, a2, b, b2, q _ ρ _ as H G hk en .refl (Rep.bl _)⟩
/-! == without truths in it is being alike -/
mutual
def noB : D → Bool
  | .bl _ => false
  | .tup ds => noBs ds
  | .lst ds => noBs ds
  | .scr _ => false
  | .obj _ _ _ => false
  | .dic => false
  | .ty _ => false
  | .cls _ => false
  | _ => true
def noBs : List D → Bool
  | [] => true
  | d :: ds => noB d && noBs ds
end
mutual
theorem eqD_iff : ∀ (d e : D), noB d = true → noB e = true → (eqD d e = true ↔ d = e)
  | .non, e, _, h => by cases e <;> simp [eqD, py, PyData.eqv, noB] at h ⊢
  | .int i, e, _, h => by cases e <;> simp [eqD, py, PyData.eqv, noB] at h ⊢
  | .str i, e, _, h => by cases e <;> simp [eqD, py, PyData.eqv, noB] at h ⊢
  | .bl _, _, h, _ => by simp [noB] at h
  | .obj _ _ _, _, h, _ => by simp [noB] at h
  | .scr _, _, h, _ => by simp [noB] at h
  | .dic, _, h, _ => by simp [noB] at h
  | .ty _, _, h, _ => by simp [noB] at h
  | .cls _, _, h, _ => by simp [noB] at h
  | .tup ds, e, h, h2 => by
    cases e with
    | tup es =>
      have := eqDs_iff ds es (by rw [noB] at h; exact h) (by rw [noB] at h2; exact h2)
      simp only [eqD, py, PyData.eqv, D.tup.injEq]
      exact this
    | _ => simp [eqD, py, PyData.eqv, noB] at h2 ⊢
  | .lst ds, e, h, h2 => by
    cases e with
    | lst es =>
      have := eqDs_iff ds es (by rw [noB] at h; exact h) (by rw [noB] at h2; exact h2)
      simp only [eqD, py, PyData.eqv, D.lst.injEq]
      exact this
    | _ => simp [eqD, py, PyData.eqv, noB] at h2 ⊢
theorem eqDs_iff : ∀ (ds es : List D), noBs ds = true → noBs es = true → (PyData.eqvAll (pys ds) (pys es) = true ↔ ds = es)
  | [], es, _, _ => by cases es <;> simp [pys, PyData.eqvAll]
  | d :: ds, [], _, _ => by simp [pys, PyData.eqvAll]
  | d :: ds, e :: es, h, h2 => by
    rw [noBs, Bool.and_eq_true] at h h2
    have a := eqD_iff d e h.1 h2.1
    have b := eqDs_iff ds es h.2 h2.2
    simp only [pys, PyData.eqvAll, Bool.and_eq_true, List.cons.injEq]
    unfold eqD at a
    rw [a, b]
end
/-! comprehensions -/
def wipeA (sl : List (Option AV)) : List Nat → List (Option AV)
  | [] => sl
  | v :: vs => (wipeA sl vs).set v none
def En.wipe (ρ : En) (vs : List Nat) : En := ⟨wipeA ρ.sl vs, ρ.ce⟩
theorem wipeA_len (sl : List (Option AV)) : ∀ vs, (wipeA sl vs).length = sl.length
  | [] => rfl
  | v :: vs => by rw [wipeA, List.length_set, wipeA_len sl vs]
theorem wipeA_get (sl : List (Option AV)) {i : Nat} {x : AV} : ∀ vs, (wipeA sl vs)[i]? = some (some x) → i ∉ vs ∧ sl[i]? = some (some x)
  | [], h => ⟨by simp, h⟩
  | v :: vs, h => by
    rw [wipeA] at h
    by_cases q : v = i
    · subst q
      rw [List.getElem?_set] at h
      simp at h
    · rw [List.getElem?_set_ne q] at h
      obtain ⟨a, b⟩ := wipeA_get sl vs h
      exact ⟨by simp only [List.mem_cons, not_or]; exact ⟨fun z => q z.symm, a⟩, b⟩
theorem wipe_get (σ : L2.St) {i : Nat} : ∀ {vs : List Nat}, i ∉ vs → (wipe σ vs)[i]? = σ[i]?
  | [], _ => rfl
  | v :: vs, h => by
    simp only [List.mem_cons, not_or] at h
    show ((wipe σ vs).set v none)[i]? = σ[i]?
    rw [List.getElem?_set_ne (fun z => h.1 z.symm), wipe_get σ h.2]
theorem EnvOk.wipe {as : List Addr} {σ σ2 : L2.St} {H G : Hp} {vs : List Nat} (e : EnvOk K F ρ as σ H G) (h : L2.wipe σ2 vs = L2.wipe σ vs) : EnvOk K F (ρ.wipe vs) as σ2 H G := by
  refine ⟨e.gh, e.fh, e.fg, e.g0, e.nd, e.pr, e.ln, e.ce, ?_, fun i x hi => ?_⟩
  · show σ2.length = (wipeA ρ.sl vs).length
    rw [wipeA_len, ← e.sn, ← wipe_length σ2 vs, h, wipe_length]
  · obtain ⟨a, b⟩ := wipeA_get ρ.sl vs hi
    obtain ⟨v, hv, r⟩ := e.sl i x b
    exact ⟨v, by rw [← wipe_get σ2 a, h, wipe_get σ a]; exact hv, r⟩
/-- a target that writes to these slots alone -/
def Only (g : TG) (vs : List Nat) : Prop := ∀ x σ H (Q Q2 : L2.St → Hp → Prop), (∀ σ' H', Q σ' H' → L2.wipe σ' vs = L2.wipe σ vs → Q2 σ' H') → g x σ H Q → g x σ H Q2
def OnlyS (g : TGs) (vs : List Nat) : Prop := ∀ x σ H (Q Q2 : L2.St → Hp → Prop), (∀ σ' H', Q σ' H' → L2.wipe σ' vs = L2.wipe σ vs → Q2 σ' H') → g x σ H Q → g x σ H Q2
theorem wipe_set (σ : L2.St) {i : Nat} {x : Option V} : ∀ {vs : List Nat}, i ∈ vs → L2.wipe (σ.set i x) vs = L2.wipe σ vs
  | v :: vs, h => by
    show (L2.wipe (σ.set i x) vs).set v none = (L2.wipe σ vs).set v none
    by_cases q : i ∈ vs
    · rw [wipe_set σ q]
    · have e : i = v := by rcases List.mem_cons.mp h with z | z; exact z; exact absurd z q
      subst e
      refine List.ext_getElem? fun j => ?_
      by_cases z : i = j
      · subst z; rw [List.getElem?_set, List.getElem?_set]; simp [wipe_length]
      · rw [List.getElem?_set_ne z, List.getElem?_set_ne z]
        by_cases y : j ∈ vs
        · have zero : ∀ (τ : L2.St) (ws : List Nat), j ∈ ws → (L2.wipe τ ws)[j]? = if j < τ.length then some none else none := by
            intro τ ws
            induction ws with
            | nil => intro m; cases m
            | cons w ws ih =>
              intro m
              show ((L2.wipe τ ws).set w none)[j]? = _
              by_cases b : w = j
              · subst b; rw [List.getElem?_set]; simp [wipe_length]
              · rw [List.getElem?_set_ne b]
                exact ih (by rcases List.mem_cons.mp m with c | c; exact absurd c.symm b; exact c)
          rw [zero _ _ y, zero _ _ y, List.length_set]
        · rw [wipe_get _ y, wipe_get _ y, List.getElem?_set_ne z]
theorem only_name {i : Nat} {vs : List Nat} (h : i ∈ vs) : Only (gName i) vs := fun x σ H Q Q2 i q => i _ _ q (wipe_set σ h)
theorem onlys_nil {vs : List Nat} : OnlyS gNil vs := fun x σ H Q Q2 i ⟨e, q⟩ => ⟨e, i _ _ q rfl⟩
theorem onlys_cons {i : Nat} {gs : TGs} {vs : List Nat} (h : i ∈ vs) (h2 : OnlyS gs vs) : OnlyS (gCons (gName i) gs) vs := fun x σ H Q Q2 im ⟨v, r, e, q⟩ => by
  subst e
  exact ⟨v, r, rfl, h2 r (σ.set i (some v)) H Q Q2 (fun σ' H' a b => im σ' H' a (by rw [b, wipe_set σ h])) q⟩
theorem only_tup {n : Nat} {gs : TGs} {vs : List Nat} (h2 : OnlyS gs vs) : Only (gTup K n gs) vs := fun x σ H Q Q2 im ⟨a, xs, e, s, l, q⟩ => ⟨a, xs, e, s, l, h2 xs σ H Q Q2 im q⟩
/-- the turns of a comprehension: n the cell of what is made -/
def LoopC (K : PySem.W.Frag) (F : Fx) (gd : En → Prop) (g : TG) (tt : TT) (te : TE) (vs : List Nat) (n : Nat) (k : AV → En → Prop) : List D → En → Prop
  | [], ρ => gd ρ ∧ k (.cel n) ρ
  | d :: ds, ρ => gd ρ ∧ WpG K F g (.dat d) ρ fun ρ1 => WpT K F tt ρ1 fun b ρ2 => if b = true then WpE K F te ρ2 fun y ρ3 => ∃ e ρ4 acc, Frz [y] ρ3 [e] ρ4 ∧ ρ4.ce[n]? = some (.lst acc) ∧ acc.length < 16000000 ∧ ∃ ρ5, Tr (n + 1) ((ρ4.cell n (.lst (acc ++ [e]))).wipe vs) ρ5 ∧ LoopC K F gd g tt te vs n k ds ρ5
      else ∃ ρ5, Tr (n + 1) (ρ2.wipe vs) ρ5 ∧ LoopC K F gd g tt te vs n k ds ρ5
theorem LoopC.gd {gd : En → Prop} {g : TG} {vs : List Nat} {n : Nat} : ∀ {ds : List D} {ρ : En}, LoopC K F gd g tt te vs n k ds ρ → gd ρ
  | [], _, h => h.1
  | _ :: _, _, h => h.1
theorem wipe_wipe (σ : L2.St) (vs : List Nat) : L2.wipe (L2.wipe σ vs) vs = L2.wipe σ vs := by
  refine List.ext_getElem? fun j => ?_
  by_cases y : j ∈ vs
  · have zero : ∀ (τ : L2.St) (ws : List Nat), j ∈ ws → (L2.wipe τ ws)[j]? = if j < τ.length then some none else none := by
      intro τ ws
      induction ws with
      | nil => intro m; cases m
      | cons w ws ih =>
        intro m
        show ((L2.wipe τ ws).set w none)[j]? = _
        by_cases b : w = j
        · subst b; rw [List.getElem?_set]; simp [wipe_length]
        · rw [List.getElem?_set_ne b]
          exact ih (by rcases List.mem_cons.mp m with c | c; exact absurd c.symm b; exact c)
    rw [zero _ _ y, zero _ _ y, wipe_length]
  · rw [wipe_get _ y]
theorem Tr.run2 {n : Nat} {ρ' : En} {as as0 : List Addr} {σ σ2 : L2.St} {H G G0 : Hp} (t : Tr n ρ ρ') (e : EnvOk K F ρ as σ H G) (e2 : EnvOk K F ρ as σ2 H G) (g : Gr G0 as0 G as) (h : as0.length ≤ n) (h0 : F.as0.length ≤ n) : ∃ as', EnvOk K F ρ' as' σ H G ∧ EnvOk K F ρ' as' σ2 H G ∧ Gr G0 as0 G as' := by
  cases t with
  | all => exact ⟨as, e, e2, g⟩
  | cut => exact ⟨_, e.trunc n h0, e2.trunc n h0, g.trunc h⟩
  | keep j h1 h2 => exact ⟨_, e.keep h0 h1 h2, e2.keep h0 h1 h2, g.keep h⟩
theorem we_lc {wi : TI} {g : TG} {vs : List Nat} (ho : Only g vs) (h : WpI K F wi ρ fun ds gd ρ1 => LoopC K F gd g tt te vs ρ1.ce.length k ds ((ρ1.add []).wipe vs)) : WpE K F (tLc wi g tt te vs) ρ k := fun as σ H G e Q q =>
  h as σ H G e _ fun ds gd J ρ1 as1 H1 G1 h1 e1 g1 its => by
    intro p hp
    obtain ⟨e2, g2⟩ := e1.newC (ds := []) (vs := []) hp .nil
    have pn : as1.length = ρ1.ce.length := e1.ln
    have pn0 : F.as0.length ≤ ρ1.ce.length + 1 := by have := e1.pr.length_le; omega
    have pn2 : (as1 ++ [p]).length ≤ ρ1.ce.length + 1 := by rw [List.length_append, pn]; exact Nat.le_refl _
    refine ⟨fun i m H' => m = ds.length - i ∧ i ≤ ds.length ∧ ∃ ρ2 as2 G2, EnvOk K F ρ2 as2 σ H' G2 ∧ EnvOk K F ρ2 as2 (L2.wipe σ vs) H' G2 ∧ Gr G1 (as1 ++ [p]) G2 as2 ∧ LoopC K F gd g tt te vs ρ1.ce.length k (ds.drop i) ρ2, ⟨_, rfl, Nat.zero_le _, _, _, _, e2.wipe rfl, e2.wipe (wipe_wipe σ vs), .refl, h1⟩, ?_⟩
    rintro i m H' ⟨rfl, hi, ρ2, as2, G2, e3, e3w, g3, lp⟩
    have g13 : Gr G1 as1 G2 as2 := g2.trans g3
    obtain ⟨go, st, yl⟩ := its ρ2 as2 (L2.wipe σ vs) H' G2 e3w g13 lp.gd
    have hat : as2[ρ1.ce.length]? = some p := by
      obtain ⟨_, r, rfl⟩ := g3
      rw [List.append_assoc, List.getElem?_append_right (by omega), pn]
      simp
    by_cases hlt : i < ds.length
    · obtain ⟨d, hd⟩ : ∃ d, ds[i]? = some d := ⟨_, List.getElem?_eq_getElem hlt⟩
      have ed : ds.drop i = d :: ds.drop (i + 1) := by
        rw [List.drop_eq_getElem_cons hlt]
        rw [List.getElem?_eq_getElem hlt] at hd
        cases hd
        rfl
      rw [ed] at lp
      refine .inr ⟨go i hlt, fun H3 => ∃ ρ3 as3 G3, EnvOk K F ρ3 as3 σ H3 G3 ∧ EnvOk K F ρ3 as3 (L2.wipe σ vs) H3 G3 ∧ Gr G1 (as1 ++ [p]) G3 as3 ∧ LoopC K F gd g tt te vs ρ1.ce.length k (ds.drop (i + 1)) ρ3, fun H3 ⟨ρ3, as3, G3, e3, e3w, g3, l3⟩ => ⟨_, by omega, rfl, hlt, ρ3, as3, G3, e3, e3w, g3, l3⟩, fun x H3 y => ?_⟩
      obtain ⟨d', G3, hd', e4, g4, rx⟩ := yl i x H3 hlt y
      rw [hd] at hd'
      cases hd'
      have main := lp.2 as2 (L2.wipe σ vs) H3 G3 x (e4 _ e3w) rx
        (fun σ2 H2 => (∃ ρ4 as4 G4, (WpT K F tt ρ4 fun b ρ2 => if b = true then WpE K F te ρ2 fun y ρ3 => ∃ e ρ4 acc, Frz [y] ρ3 [e] ρ4 ∧ ρ4.ce[ρ1.ce.length]? = some (.lst acc) ∧ acc.length < 16000000 ∧ ∃ ρ5, Tr (ρ1.ce.length + 1) ((ρ4.cell ρ1.ce.length (.lst (acc ++ [e]))).wipe vs) ρ5 ∧ LoopC K F gd g tt te vs ρ1.ce.length k (ds.drop (i + 1)) ρ5
      else ∃ ρ5, Tr (ρ1.ce.length + 1) (ρ2.wipe vs) ρ5 ∧ LoopC K F gd g tt te vs ρ1.ce.length k (ds.drop (i + 1)) ρ5) ∧ EnvOk K F ρ4 as4 σ2 H2 G4 ∧ Gr G3 as2 G4 as4)) (fun ρ4 as4 σ4 H4 G4 h4 e5 g5 => ⟨ρ4, as4, G4, h4, e5, g5⟩)
      refine ho x _ _ _ _ ?_ main
      rintro σ2 H4 ⟨ρ4, as4, G4, h4, e5, g5⟩ ew
      rw [wipe_wipe] at ew
      refine ⟨ew, h4 as4 σ2 H4 G4 e5 _ fun b ρ5 as5 H5 G5 h5 e6 g6 => ?_⟩
      have gg : Gr G1 (as1 ++ [p]) G5 as5 := g3.trans (g4.trans (g5.trans g6))
      cases b with
      | false =>
        obtain ⟨ρ7, tr, lp2⟩ := (show ∃ ρ5', Tr (ρ1.ce.length + 1) (ρ5.wipe vs) ρ5' ∧ _ from h5)
        obtain ⟨as7, x1, x2, x3⟩ := tr.run2 (e6.wipe ew.symm) (show EnvOk K F _ _ (L2.wipe σ vs) _ _ from e6.wipe (by rw [wipe_wipe, ew])) gg pn2 pn0
        exact ⟨ρ7, as7, G5, x1, x2, x3, lp2⟩
      | true =>
        refine (show WpE K F te ρ5 _ from h5) as5 σ2 H5 G5 e6 _ ?_
        rintro y ρ6 v as6 H6 G6 ⟨e', ρ7, acc, fz, hc, hl, ρ8, tr, lp2⟩ e7 g7 r7
        obtain ⟨G7, e8, g8, r8⟩ := fz.run e7 (.cons r7 .nil)
        have hat6 : as6[ρ1.ce.length]? = some p := by
          obtain ⟨_, r, rfl⟩ := g4.trans (g5.trans (g6.trans g7))
          rw [List.getElem?_append_left (List.getElem?_eq_some_iff.mp hat).1]
          exact hat
        obtain ⟨_, _, gn, ws, hw, hr⟩ := e8.ce _ _ p hc hat6
        cases r8 with
        | cons ra rb =>
          cases rb
          have e9 := e8.setC (c' := .lst (acc ++ [e'])) hc hat6 gn ⟨gn, _, upd_same, hr.append (.cons ra .nil)⟩
          obtain ⟨as7, x1, x2, x3⟩ := tr.run2 (e9.wipe ew.symm) (show EnvOk K F _ _ (L2.wipe σ vs) _ _ from e9.wipe (by rw [wipe_wipe, ew])) (gg.trans (g7.trans g8)) pn2 pn0
          exact ⟨ws, hw, szbl (by rw [hr.length]; omega), ρ8, as7, G7, x1, x2, x3, lp2⟩
    · have ei : i = ds.length := by omega
      subst ei
      rw [List.drop_length] at lp
      exact .inl ⟨st, q _ _ _ _ _ _ lp.2 e3 (g1.trans g13) ⟨p, hat, rfl⟩⟩
/-! errors -/
theorem ws_exc (h : ∀ as σ H G D, EnvOk K F ρ as σ H G → t D σ H) : WpS K F t ρ ks := fun as σ H G e D _ => h as σ H G D e
end
theorem frz_in {xs ds : List _} {ρ ρ2 : En} {P : List D → En → Prop} (h0 : Frz xs ρ ds ρ2) (h1 : Nat.ble ds.length 1000 = true) (h2 : P ds ρ2) : ∃ ds ρ2, Frz xs ρ ds ρ2 ∧ Nat.ble ds.length 1000 = true ∧ P ds ρ2 := ⟨ds, ρ2, h0, h1, h2⟩
theorem il_in {x : AV} {ds : List D} {ρ : En} {P : List D → Prop} (h0 : IsL ρ x ds) (h2 : P ds) : ∃ ds, IsL ρ x ds ∧ P ds := ⟨ds, h0, h2⟩
theorem lc_in {y : AV} {e : D} {ρ ρ4 : En} {n : Nat} {acc : List D} {P : D → En → List D → Prop} (h0 : Frz [y] ρ [e] ρ4) (h1 : ρ4.ce[n]? = some (.lst acc)) (h2 : acc.length < 16000000) (h3 : P e ρ4 acc) : ∃ e ρ4 acc, Frz [y] ρ [e] ρ4 ∧ ρ4.ce[n]? = some (.lst acc) ∧ acc.length < 16000000 ∧ P e ρ4 acc := ⟨e, ρ4, acc, h0, h1, h2, h3⟩
theorem wgs_nilM {K : PySem.W.Frag} {F : Fx} {ρ : En} {kn : En → Prop} (h : kn ρ) : WpGs K F gNil (List.map AV.dat []) ρ kn := wgs_nil h
theorem wgs_consM {K : PySem.W.Frag} {F : Fx} {ρ : En} {g : TG} {gs : TGs} {d : D} {ds : List D} {kn : En → Prop} (h : WpG K F g (.dat d) ρ fun ρ1 => WpGs K F gs (ds.map .dat) ρ1 kn) : WpGs K F (gCons g gs) ((d :: ds).map .dat) ρ kn := wgs_cons h
section
variable {K : PySem.W.Frag} {F : Fx} {ρ : En} {k : AV → En → Prop} {ks ks' : KS} {t : TS} {te : TE} {tt : TT}
theorem WpS.imp (h : WpS K F t ρ ks) (h1 : ∀ ρ, ks.nx ρ → ks'.nx ρ) (h2 : ∀ x ρ, ks.rt x ρ → ks'.rt x ρ) (h3 : ∀ ρ, ks.bk ρ → ks'.bk ρ) (h4 : ∀ ρ, ks.ct ρ → ks'.ct ρ) : WpS K F t ρ ks' := fun as σ H G e D q =>
  h as σ H G e D ⟨fun ρ as' σ H G' a b c => q.nx ρ as' σ H G' (h1 _ a) b c, fun av ρ v as' σ H G' a b c d => q.rt av ρ v as' σ H G' (h2 _ _ a) b c d, fun ρ as' σ H G' a b c => q.bk ρ as' σ H G' (h3 _ a) b c, fun ρ as' σ H G' a b c => q.ct ρ as' σ H G' (h4 _ a) b c, q.fr⟩
theorem WpG.imp {g : TG} {x : AV} {kn kn' : En → Prop} (h : WpG K F g x ρ kn) (i : ∀ ρ, kn ρ → kn' ρ) : WpG K F g x ρ kn' := fun as σ H G v e r Q q => h as σ H G v e r Q fun ρ' as' σ' H' G' a b c => q ρ' as' σ' H' G' (i _ a) b c
theorem WpT.imp {kb kb' : Bool → En → Prop} (h : WpT K F tt ρ kb) (i : ∀ b ρ, kb b ρ → kb' b ρ) : WpT K F tt ρ kb' := fun as σ H G e Q q => h as σ H G e Q fun b ρ' as' H' G' a c d => q b ρ' as' H' G' (i _ _ a) c d
/-- what holds at a turn's end -/
inductive Now (p : Prop) : Prop
  | one (h : p)
  | two (h : p)
theorem now {p : Prop} (h : p) : Now p := .one h
theorem Now.out {p : Prop} (h : Now p) : p := by cases h <;> assumption
theorem loop_by {n : Nat} {gd : En → Prop} {g : TG} {tb : TS} {ds : List D} (I : List D → En → Prop) (h0 : I ds ρ) (hn : ∀ ρ, I [] ρ → gd ρ ∧ ks.nx ρ)
    (hs : ∀ d ds ρ, I (d :: ds) ρ → gd ρ ∧ WpG K F g (.dat d) ρ fun ρ1 => WpS K F tb ρ1 { nx := fun ρ2 => Now (I ds ρ2), rt := ks.rt, ct := fun ρ2 => Now (I ds ρ2), bk := ks.nx }) : Loop K F n gd g tb ks ds ρ := by
  induction ds generalizing ρ with
  | nil => exact hn ρ h0
  | cons d ds ih =>
    obtain ⟨a, b⟩ := hs d ds ρ h0
    exact ⟨a, b.imp fun ρ1 h1 => h1.imp (fun ρ2 h2 => ⟨ρ2, .all, ih h2.out⟩) (fun _ _ z => z) (fun _ z => z) (fun ρ2 h2 => ⟨ρ2, .all, ih h2.out⟩)⟩
/-- .. each turn's own cells forgotten -/
theorem loop_cut {n : Nat} {gd : En → Prop} {g : TG} {tb : TS} {ds : List D} (I : List D → En → Prop) (h0 : I ds ρ) (hn : ∀ ρ, I [] ρ → gd ρ ∧ ks.nx ρ)
    (hs : ∀ d ds ρ, I (d :: ds) ρ → gd ρ ∧ WpG K F g (.dat d) ρ fun ρ1 => WpS K F tb ρ1 { nx := fun ρ2 => Now (I ds (ρ2.trunc n)), rt := ks.rt, ct := fun ρ2 => Now (I ds (ρ2.trunc n)), bk := ks.nx }) : Loop K F n gd g tb ks ds ρ := by
  induction ds generalizing ρ with
  | nil => exact hn ρ h0
  | cons d ds ih =>
    obtain ⟨a, b⟩ := hs d ds ρ h0
    exact ⟨a, b.imp fun ρ1 h1 => h1.imp (fun ρ2 h2 => ⟨_, .cut, ih h2.out⟩) (fun _ _ z => z) (fun _ z => z) (fun ρ2 h2 => ⟨_, .cut, ih h2.out⟩)⟩
/-- .. each turn's end as one likes -/
theorem loop_any {n : Nat} {gd : En → Prop} {g : TG} {tb : TS} {ds : List D} (I : List D → En → Prop) (h0 : I ds ρ) (hn : ∀ ρ, I [] ρ → gd ρ ∧ ks.nx ρ)
    (hs : ∀ d ds ρ, I (d :: ds) ρ → gd ρ ∧ WpG K F g (.dat d) ρ fun ρ1 => WpS K F tb ρ1 { nx := fun ρ2 => Now (∃ ρ3, Tr n ρ2 ρ3 ∧ I ds ρ3), rt := ks.rt, ct := fun ρ2 => Now (∃ ρ3, Tr n ρ2 ρ3 ∧ I ds ρ3), bk := ks.nx }) : Loop K F n gd g tb ks ds ρ := by
  induction ds generalizing ρ with
  | nil => exact hn ρ h0
  | cons d ds ih =>
    obtain ⟨a, b⟩ := hs d ds ρ h0
    exact ⟨a, b.imp fun ρ1 h1 => h1.imp (fun ρ2 h2 => let ⟨ρ3, t, i⟩ := h2.out; ⟨ρ3, t, ih i⟩) (fun _ _ z => z) (fun _ z => z) (fun ρ2 h2 => let ⟨ρ3, t, i⟩ := h2.out; ⟨ρ3, t, ih i⟩)⟩
theorem loopC_by {gd : En → Prop} {g : TG} {vs : List Nat} {n : Nat} {ds : List D} (I : List D → En → Prop) (h0 : I ds ρ) (hn : ∀ ρ, I [] ρ → gd ρ ∧ k (.cel n) ρ)
    (hs : ∀ d ds ρ, I (d :: ds) ρ → gd ρ ∧ WpG K F g (.dat d) ρ fun ρ1 => WpT K F tt ρ1 fun b ρ2 => if b = true then WpE K F te ρ2 fun y ρ3 => ∃ e ρ4 acc, Frz [y] ρ3 [e] ρ4 ∧ ρ4.ce[n]? = some (.lst acc) ∧ acc.length < 16000000 ∧ Now (I ds (((ρ4.cell n (.lst (acc ++ [e]))).wipe vs).trunc (n + 1)))
      else Now (I ds ((ρ2.wipe vs).trunc (n + 1)))) : LoopC K F gd g tt te vs n k ds ρ := by
  induction ds generalizing ρ with
  | nil => exact hn ρ h0
  | cons d ds ih =>
    obtain ⟨a, b⟩ := hs d ds ρ h0
    refine ⟨a, b.imp fun ρ1 h1 => h1.imp fun b ρ2 h2 => ?_⟩
    cases b with
    | true => exact WpE.imp h2 fun y ρ3 ⟨e, ρ4, acc, x1, x2, x3, x4⟩ => ⟨e, ρ4, acc, x1, x2, x3, _, .cut, ih x4.out⟩
    | false => exact ⟨_, .cut, ih (show Now _ from h2).out⟩
end
section
variable {K : PySem.W.Frag} {F : Fx} {ρ : En} {k : AV → En → Prop}
/-- an item at a drawn place -/
theorem wr_ixA {x : AV} {ds : List D} {i : Int} (hx : IsL ρ x ds) (h0 : 0 ≤ i) (h1 : i < ds.length) (hk : ∀ d ∈ ds, k (.dat d) ρ) : WpR K F (rIxL K) x (.dat (.int i)) ρ k := by
  have hl : i.toNat < ds.length := by omega
  have e : ((i.toNat : Nat) : Int) = i := by omega
  have ha := atI_nat (xs := ds) (j := i.toNat) (v := ds[i.toNat]) (List.getElem?_eq_getElem hl)
  rw [e] at ha
  exact wr_ixL hx ha (hk _ (List.getElem_mem hl))
/-- a list of one number is a state to draw from -/
theorem EnvOk.drw {as : List Addr} {σ : L2.St} {H G : Hp} {j : Nat} {n : Int} (e : EnvOk K F ρ as σ H G) (hj : ρ.ce[j]? = some (.lst [.int n])) : EnvOk K F (ρ.cell j .drw) as σ H G := by
  have hl : j < ρ.ce.length := (List.getElem?_eq_some_iff.mp hj).1
  refine ⟨e.gh, e.fh, e.fg, e.g0, e.nd, e.pr, by rw [e.ln]; exact (List.length_set).symm, fun i c a hc ha => ?_, e.sn, e.sl⟩
  have hc' : (ρ.ce.set j .drw)[i]? = some c := hc
  by_cases hij : j = i
  · subst hij
    rw [List.getElem?_set_self hl] at hc'
    cases hc'
    obtain ⟨fa, ho, g, ws, hw, hr⟩ := e.ce j _ a hj ha
    refine ⟨fa, ho, g, ws, hw, ?_⟩
    cases hr with
    | cons x y => cases y; cases x; exact .inl ⟨_, rfl⟩
  · rw [List.getElem?_set_ne hij] at hc'
    exact e.ce i c a hc' ha
theorem wsp_drw {sp : Sp} {E : L2.St → XK} {xs : List AV} {j : Nat} {n : Int} (hj : ρ.ce[j]? = some (.lst [.int n])) (h : WpSp K F sp E xs (ρ.cell j .drw) k) : WpSp K F sp E xs ρ k := fun as σ H G vs e r Q q =>
  h as σ H G vs (e.drw hj) r Q (q.imp .refl fun _ _ z => z)
theorem ws_drw {t : TS} {ks : KS} {j : Nat} {n : Int} (hj : ρ.ce[j]? = some (.lst [.int n])) (h : WpS K F t (ρ.cell j .drw) ks) : WpS K F t ρ ks := fun as σ H G e D q => h as σ H G (e.drw hj) D q
end
theorem rngD_len {lo : Int} {n : Nat} : (rngD lo n).length = n := by unfold rngD; rw [List.length_map, List.length_range]
theorem rngD_drop {lo : Int} {n i : Nat} (h : i < n) : (rngD lo n).drop i = .int (lo + i) :: (rngD lo n).drop (i + 1) := by
  have hl : i < (rngD lo n).length := by rw [rngD_len]; exact h
  rw [List.drop_eq_getElem_cons hl]
  congr 1
  have : (rngD lo n)[i]? = some (.int (lo + i)) := by unfold rngD; rw [List.getElem?_map, List.getElem?_range h]; rfl
  rw [List.getElem?_eq_getElem hl] at this
  exact Option.some.inj this
section
variable {K : PySem.W.Frag} {F : Fx} {ρ : En} {k : AV → En → Prop} {ks : KS} {te : TE} {tt : TT}
theorem loop_rng {m : Nat} {gd : En → Prop} {g : TG} {tb : TS} {lo : Int} {n : Nat} (I : Nat → En → Prop) (h0 : I 0 ρ) (hn : ∀ ρ, I n ρ → gd ρ ∧ ks.nx ρ)
    (hs : ∀ i ρ, i < n → I i ρ → gd ρ ∧ WpG K F g (.dat (.int (lo + i))) ρ fun ρ1 => WpS K F tb ρ1 { nx := fun ρ2 => Now (I (i + 1) (ρ2.trunc m)), rt := ks.rt, ct := fun ρ2 => Now (I (i + 1) (ρ2.trunc m)), bk := ks.nx }) : Loop K F m gd g tb ks (rngD lo n) ρ := by
  refine loop_cut (fun ds ρ => ∃ i, i ≤ n ∧ ds = (rngD lo n).drop i ∧ I i ρ) ⟨0, Nat.zero_le _, rfl, h0⟩ ?_ ?_
  · rintro ρ ⟨i, hi, hd, h⟩
    have : i = n := by
      rcases Nat.lt_or_ge i n with z | z
      · rw [rngD_drop z] at hd; cases hd
      · omega
    subst this
    exact hn ρ h
  · rintro d ds ρ ⟨i, hi, hd, h⟩
    rcases Nat.lt_or_ge i n with z | z
    · rw [rngD_drop z] at hd
      cases hd
      obtain ⟨a, b⟩ := hs i ρ z h
      exact ⟨a, b.imp fun ρ1 h1 => h1.imp (fun ρ2 h2 => now ⟨i + 1, z, rfl, h2.out⟩) (fun _ _ z => z) (fun _ z => z) (fun ρ2 h2 => now ⟨i + 1, z, rfl, h2.out⟩)⟩
    · rw [List.drop_of_length_le (by rw [rngD_len]; exact z)] at hd; cases hd
theorem loopC_rng {gd : En → Prop} {g : TG} {vs : List Nat} {m : Nat} {lo : Int} {n : Nat} (I : Nat → En → Prop) (h0 : I 0 ρ) (hn : ∀ ρ, I n ρ → gd ρ ∧ k (.cel m) ρ)
    (hs : ∀ i ρ, i < n → I i ρ → gd ρ ∧ WpG K F g (.dat (.int (lo + i))) ρ fun ρ1 => WpT K F tt ρ1 fun b ρ2 => if b = true then WpE K F te ρ2 fun y ρ3 => ∃ e ρ4 acc, Frz [y] ρ3 [e] ρ4 ∧ ρ4.ce[m]? = some (.lst acc) ∧ acc.length < 16000000 ∧ Now (I (i + 1) (((ρ4.cell m (.lst (acc ++ [e]))).wipe vs).trunc (m + 1)))
      else Now (I (i + 1) ((ρ2.wipe vs).trunc (m + 1)))) : LoopC K F gd g tt te vs m k (rngD lo n) ρ := by
  refine loopC_by (fun ds ρ => ∃ i, i ≤ n ∧ ds = (rngD lo n).drop i ∧ I i ρ) ⟨0, Nat.zero_le _, rfl, h0⟩ ?_ ?_
  · rintro ρ ⟨i, hi, hd, h⟩
    have : i = n := by
      rcases Nat.lt_or_ge i n with z | z
      · rw [rngD_drop z] at hd; cases hd
      · omega
    subst this
    exact hn ρ h
  · rintro d ds ρ ⟨i, hi, hd, h⟩
    rcases Nat.lt_or_ge i n with z | z
    · rw [rngD_drop z] at hd
      cases hd
      obtain ⟨a, b⟩ := hs i ρ z h
      refine ⟨a, b.imp fun ρ1 h1 => h1.imp fun b ρ2 h2 => ?_⟩
      cases b with
      | true => exact WpE.imp h2 fun y ρ3 ⟨e, ρ4, acc, x1, x2, x3, x4⟩ => ⟨e, ρ4, acc, x1, x2, x3, now ⟨i + 1, z, rfl, x4.out⟩⟩
      | false => exact now ⟨i + 1, z, rfl, (show Now _ from h2).out⟩
    · rw [List.drop_of_length_le (by rw [rngD_len]; exact z)] at hd; cases hd
end
/-! ### rules of the data layer: truth of lists, items stored, pop -/
def tTru (K : PySem.W.Frag) (ta : TE) : TT := fun σ H Q => ta σ H fun x H' => ∃ k, TruV K x H' k ∧ Q k H'
theorem pt_tru {X : Cx} {K : PySem.W.Frag} {a : Expr} {ta : TE} (hK : X.K = K) (h : PE X a ta) (he : ∀ whole, isTrue a X.env whole = (do let v ← whole; standAt a.pos; holding [v] (truthy v))) : PT X a (tTru K ta) := by
  subst hK
  exact pt_truth h he
section
variable {K : PySem.W.Frag} {F : Fx} {ρ : En} {k : AV → En → Prop} {kb : Bool → En → Prop} {ta to ti : TE}
theorem isEmpty_reps {G : Hp} {ds : List D} {vs : List V} (h : Reps K G ds vs) : vs.isEmpty = ds.isEmpty := by
  cases ds with
  | nil => cases h; rfl
  | cons => cases h; rfl
theorem wt_tru (h : WpE K F ta ρ fun x ρ1 => ∃ ds, IsL ρ1 x ds ∧ kb (!ds.isEmpty) ρ1) : WpT K F (tTru K ta) ρ kb := fun as σ H G e Q q =>
  h as σ H G e _ fun x ρ1 vx as1 H1 G1 ⟨ds, hx, h1⟩ e1 g1 r1 => by
    obtain ⟨a, vs, rfl, hs, hr⟩ := hx.rep e1 r1
    refine ⟨!ds.isEmpty, .inl ⟨vs, hs, by rw [isEmpty_reps hr]⟩, q _ _ _ _ _ h1 e1 g1⟩
theorem wg_sub {x : AV} {kn : En → Prop} (h : WpE K F to ρ fun o ρ1 => WpE K F ti ρ1 fun i ρ2 => ∃ (j m : Nat) (n : Int) (d : D) (ρ3 : En) (ds : List D), o = .cel j ∧ i = .dat (.int n) ∧ Frz [x] ρ2 [d] ρ3 ∧ ρ3.ce[j]? = some (.lst ds) ∧ ixN ds.length n = some m ∧ kn (ρ3.cell j (.lst (ds.set m d)))) : WpG K F (gSub to ti rSetL) x ρ kn := fun as σ H G v e r Q q =>
  h as σ H G e _ fun o ρ1 vo as1 H1 G1 h1 e1 g1 r1 => h1 as1 σ H1 G1 e1 _ fun i ρ2 vi as2 H2 G2 ⟨j, m, n, d, ρ3, ds, eo, ei, fz, hc, hi, hk⟩ e2 g2 r2 => by
    subst eo ei
    obtain ⟨G3, e3, g3, r3⟩ := fz.run e2 (.cons (r.mono (g1.trans g2)) .nil)
    obtain ⟨a, ha, rfl⟩ := r1.mono g2
    cases r3 with
    | cons y z =>
      cases z
      obtain ⟨_, _, g, ws, hw, hr⟩ := e3.ce j _ a hc ha
      refine ⟨a, ws, n, m, rfl, Rep.intE r2, hw, by rw [hr.length]; exact hi, q _ as2 σ _ G3 hk (e3.setC hc ha g ⟨g, _, upd_same, hr.set y m⟩) (g1.trans (g2.trans g3))⟩
theorem wm_pop {j : Nat} {ds : List D} {d : D} (hc : ρ.ce[j]? = some (.lst ds)) (hd : ds.getLast? = some d) (hk : k (.dat d) (ρ.cell j (.lst ds.dropLast))) : WpM K F rPop (.cel j) [] ρ k := fun as σ H G v vs e r1 r2 Q q => by
  obtain ⟨a, ha, rfl⟩ := r1
  cases r2
  obtain ⟨_, _, g, ws, hw, hr⟩ := e.ce j _ a hc ha
  rw [List.getLast?_eq_getElem?] at hd
  obtain ⟨v, hv, rv⟩ := hr.get hd
  have hdl : Reps K G ds.dropLast ws.dropLast := by
    rw [List.dropLast_eq_take, List.dropLast_eq_take, hr.length]
    exact hr.take _
  exact ⟨a, ws, v, rfl, rfl, hw, by rw [hr.length]; exact hv, q _ _ _ as _ G hk (e.setC hc ha g ⟨g, _, upd_same, hdl⟩) .refl rv⟩
theorem sub_in {o i : AV} {x : AV} {j m : Nat} {n : Int} {d : D} {ρ2 ρ3 : En} {ds : List D} {kn : En → Prop} (h1 : o = .cel j) (h2 : i = .dat (.int n)) (h0 : Frz [x] ρ2 [d] ρ3) (h3 : ρ3.ce[j]? = some (.lst ds)) (h4 : ixN ds.length n = some m) (hk : kn (ρ3.cell j (.lst (ds.set m d)))) :
    ∃ (j m : Nat) (n : Int) (d : D) (ρ3 : En) (ds : List D), o = .cel j ∧ i = .dat (.int n) ∧ Frz [x] ρ2 [d] ρ3 ∧ ρ3.ce[j]? = some (.lst ds) ∧ ixN ds.length n = some m ∧ kn (ρ3.cell j (.lst (ds.set m d))) := ⟨j, m, n, d, ρ3, ds, h1, h2, h0, h3, h4, hk⟩
end
theorem mapC {α β : Type} (f : α → β) (a : α) (l : List α) : List.map f (a :: l) = f a :: List.map f l := rfl
theorem mapN {α β : Type} (f : α → β) : List.map f [] = [] := rfl
theorem frzA_d (j : Nat) (d e : D) : frzA j d (.dat e) = .dat e := rfl
theorem frzA_c (j i : Nat) (d : D) : frzA j d (.cel i) = if i = j then .dat d else .cel i := rfl
/-! ### try by data -/
section
variable {K : PySem.W.Frag} {F : Fx} {ρ : En} {k : AV → En → Prop} {ks : KS}
def En.clr (ρ : En) (i : Nat) : En := ⟨ρ.sl.set i none, ρ.ce⟩
theorem EnvOk.clr {as : List Addr} {σ : L2.St} {H G : Hp} (e : EnvOk K F ρ as σ H G) (i : Nat) : EnvOk K F (ρ.clr i) as (σ.set i none) H G :=
  ⟨e.gh, e.fh, e.fg, e.g0, e.nd, e.pr, e.ln, e.ce, by rw [List.length_set, e.sn]; exact (List.length_set).symm, fun j av hj => by
    have hj' : (ρ.sl.set i none)[j]? = some (some av) := hj
    by_cases hij : i = j
    · subst hij
      rw [List.getElem?_set] at hj'
      simp at hj'
    · rw [List.getElem?_set_ne hij] at hj'
      obtain ⟨v, hv, r⟩ := e.sl j av hj'
      exact ⟨v, by rw [List.getElem?_set_ne hij]; exact hv, r⟩⟩
def KS.off (ks : KS) (i : Nat) : KS := { nx := fun ρ => ks.nx (ρ.clr i), rt := ks.rt, bk := fun ρ => ks.bk (ρ.clr i), ct := fun ρ => ks.ct (ρ.clr i) }
theorem EndsOk.off {as : List Addr} {G : Hp} {D : Ends} (q : EndsOk K F as G ks D) (i : Nat) : EndsOk K F as G (ks.off i) (offAt i D) :=
  ⟨fun ρ as' σ H G' a b c => q.nx _ as' _ H G' a (b.clr i) c, q.rt, fun ρ as' σ H G' a b c => q.bk _ as' _ H G' a (b.clr i) c, fun ρ as' σ H G' a b c => q.ct _ as' _ H G' a (b.clr i) c, q.fr⟩
/-- what an error of the class C meets at the clauses -/
def Mix (K : PySem.W.Frag) (F : Fx) (C : Addr) (out : Prop) : List (Value × Option Nat × Suite) → En → KS → Prop
  | [], _, _ => out
  | (c, none, t) :: r, ρ, ks => ∃ y, PySem.W.exmOne K (.ref C) c = some y ∧ if y = true then ∀ e, WpS K F (t e (.ref C) none) ρ ks else Mix K F C out r ρ ks
  | (c, some i, t) :: r, ρ, ks => ∃ y, PySem.W.exmOne K (.ref C) c = some y ∧ if y = true then ∀ e, WpS K F (t e (.ref C) none) (ρ.put i (.dat (.cls e))) (ks.off i) else Mix K F C out r ρ ks
theorem Mix.run {C : Addr} {out : Prop} {Wo : WX} {as as0 : List Addr} {σ : L2.St} {H G G0 : Hp} {D : Ends} (e : EnvOk K F ρ as σ H G) (hWo : out → Wo (.ref C) none σ H) (q : EndsOk K F as G ks D) : ∀ {l : List (Value × Option Nat × Suite)}, Mix K F C out l ρ ks → wMix K Wo D l (.ref C) none σ H
  | [], h => hWo h
  | (c, none, t) :: r, ⟨y, hy, h⟩ => by
    refine ⟨y, hy, fun z x _ => ?_, fun z => ?_⟩
    · subst z
      exact (show ∀ x, WpS K F (t x (.ref C) none) ρ ks from h) x as σ H G e D q
    · subst z
      exact Mix.run (as0 := as0) (G0 := G0) e hWo q (show Mix K F C out r ρ ks from h)
  | (c, some i, t) :: r, ⟨y, hy, h⟩ => by
    refine ⟨y, hy, fun z x _ => ?_, fun z => ?_⟩
    · subst z
      exact (show ∀ x, WpS K F (t x (.ref C) none) (ρ.put i (.dat (.cls x))) (ks.off i) from h) x as _ H G (e.put (x := .dat (.cls x)) (Rep.cls x)) _ (q.off i)
    · subst z
      exact Mix.run (as0 := as0) (G0 := G0) e hWo q (show Mix K F C out r ρ ks from h)
/-- xk: which errors come, and at which environment -/
theorem ws_try {tb : WX → TS} {Wo : WX} {l : List (Value × Option Nat × Suite)} (xk : Addr → En → Prop) (out : Addr → Prop)
    (hWo : ∀ C ρ' as σ H G, out C → EnvOk K F ρ' as σ H G → Wo (.ref C) none σ H)
    (hb : ∀ (F1 : Fx) (W : WX), F1.fr = F.fr → (∀ C ρ' as σ H G, xk C ρ' → EnvOk K F1 ρ' as σ H G → W (.ref C) none σ H) → WpS K F1 (tb W) ρ ks)
    (hs : ∀ C ρ', xk C ρ' → Mix K F C (out C) l ρ' ks) : WpS K F (fun D u G => tb (wMix K Wo D l) D u G) ρ ks := fun as σ H G e D q => by
  have e1 : EnvOk K ⟨F.Fr, G, F.E, F.ex, F.hE, F.fr, as⟩ ρ as σ H G := ⟨e.gh, e.fh, fun a o h => .inl h, Same.refl _, e.nd, List.prefix_refl _, e.ln, e.ce, e.sn, e.sl⟩
  have back : ∀ {ρ' : En} {as' : List Addr} {σ' : L2.St} {H' G' : Hp}, EnvOk K ⟨F.Fr, G, F.E, F.ex, F.hE, F.fr, as⟩ ρ' as' σ' H' G' → EnvOk K F ρ' as' σ' H' G' ∧ Gr G as G' as' := fun {ρ' as' σ' H' G'} x => by
    refine ⟨⟨x.gh, x.fh, fun a o h => ?_, Same.trans e.g0 x.g0, x.nd, e.pr.trans x.pr, x.ln, x.ce, x.sn, x.sl⟩, ⟨x.g0, ?_⟩⟩
    · rcases x.fg a o h with z | z
      · exact e.fg a o z
      · exact .inr z
    · obtain ⟨r, hr⟩ := x.pr
      exact ⟨r, hr.symm⟩
  refine hb ⟨F.Fr, G, F.E, F.ex, F.hE, F.fr, as⟩ (wMix K Wo D l) rfl (fun C ρ' as' σ' H' G' hx ex => ?_) as σ H G e1 D ⟨fun ρ' as' σ' H' G' a b _ => ?_, fun av ρ' v as' σ' H' G' a b _ r => ?_, fun ρ' as' σ' H' G' a b _ => ?_, fun ρ' as' σ' H' G' a b _ => ?_, q.fr⟩
  · obtain ⟨b1, g1⟩ := back ex
    exact Mix.run (as0 := as) (G0 := G) b1 (fun z => hWo C ρ' as' σ' H' G' z b1) (EndsOk.grow K F q g1) (hs C ρ' hx)
  · obtain ⟨b1, g1⟩ := back b
    exact q.nx ρ' as' σ' H' G' a b1 g1
  · obtain ⟨b1, g1⟩ := back b
    exact q.rt av ρ' v as' σ' H' G' a b1 g1 r
  · obtain ⟨b1, g1⟩ := back b
    exact q.bk ρ' as' σ' H' G' a b1 g1
  · obtain ⟨b1, g1⟩ := back b
    exact q.ct ρ' as' σ' H' G' a b1 g1
/-- nothing is let out -/
theorem ws_try0 {tb : WX → TS} {l : List (Value × Option Nat × Suite)} (xk : Addr → En → Prop)
    (hb : ∀ (F1 : Fx) (W : WX), F1.fr = F.fr → (∀ C ρ' as σ H G, xk C ρ' → EnvOk K F1 ρ' as σ H G → W (.ref C) none σ H) → WpS K F1 (tb W) ρ ks)
    (hs : ∀ C ρ', xk C ρ' → Mix K F C False l ρ' ks) : WpS K F (fun D u G => tb (wMix K (fun _ _ _ _ => False) D l) D u G) ρ ks := ws_try xk (fun _ => False) (fun _ _ _ _ _ _ z _ => z) hb hs
/-- a call in a try: its errors meet the clauses -/
theorem wspT {W : PW0} {Wx : WX} {xk : Addr → En → Prop} {xs : List AV} {ds : List D} (hW : ∀ C ρ' as σ H G, xk C ρ' → EnvOk K F ρ' as σ H G → Wx (.ref C) none σ H) (ha : AsD ρ xs ds) (hw : W (ds.map .dat) [] (fun r _ => aft ρ xs k r) (fun C => xk C ρ)) : WpSp K F (spG K W) (L2.WE Wx) xs ρ k := wsp0 ha (fun C as σ H G h e => hW C ρ as σ H G h e) hw
/-- isinstance of a caught error -/
theorem wc_isE {a C Y : Addr} {b : Bool} (hx : ExcC K C) (hk : PySem.W.kitOne K (.ref C) (.ref Y) = some b) (h : k (.dat (.bl b)) ρ) : WpC K F (fun xs H Q => ∃ D, Value.ref C = .ref D ∧ (none : Option Addr) = none ∧ ExcC K D ∧ rIsE K D a xs H Q) [.dat (.cls a), .dat (.cls Y)] ρ k := fun as σ H G vs e r Q q => by
  cases r with
  | cons r1 r2 =>
    cases r2 with
    | cons r2 r3 =>
      cases r3
      cases (show Rep K G (.cls a) _ from r1)
      cases (show Rep K G (.cls Y) _ from r2)
      exact ⟨C, rfl, rfl, hx, _, _, b, rfl, (fun u hu => by cases hu; rfl), hk, q _ ρ _ as H G h e .refl (Rep.bl _)⟩
theorem wc_isEB {a C : Addr} {s : String} {b : Bool} (hx : ExcC K C) (hk : PySem.W.kitOne K (.ref C) (.type s) = some b) (h : k (.dat (.bl b)) ρ) : WpC K F (fun xs H Q => ∃ D, Value.ref C = .ref D ∧ (none : Option Addr) = none ∧ ExcC K D ∧ rIsE K D a xs H Q) [.dat (.cls a), .dat (.ty s)] ρ k := fun as σ H G vs e r Q q => by
  cases r with
  | cons r1 r2 =>
    cases r2 with
    | cons r2 r3 =>
      cases r3
      cases (show Rep K G (.cls a) _ from r1)
      cases (show Rep K G (.ty s) _ from r2)
      exact ⟨C, rfl, rfl, hx, _, _, b, rfl, (fun u hu => by cases hu; rfl), hk, q _ ρ _ as H G h e .refl (Rep.bl _)⟩
/-- {} -/
theorem we_dnew (h : k (.dat .dic) ρ) : WpE K F tDNewK ρ k := fun as σ H G e Q q p hp => by
  obtain ⟨e3, g3⟩ := e.newG (o := .dK []) hp
  exact q _ _ _ _ _ _ h e3 g3 (Rep.dic upd_same)
end
/-! ### a try as one word -/
def tTry (K : PySem.W.Frag) (tb : WX → TS) (Wo : WX) (l : List (Value × Option Nat × Suite)) : TS := fun D u G => tb (wMix K Wo D l) D u G
theorem ps_tryT {X : Cx} {body : List Stmt} {h1 : ExceptHandler} {hds : List ExceptHandler} {l : List (Value × Option Nat × Suite)} {pos : Pos} {tb : WX → TS} {Wo : WX} (hs : X.stack = X.env :: X.outer) (hf : X.env.frame = some X.env.locals) (tk : Takes X Wo)
    (hb : ∀ W pn xe, Takes (X.tr pn xe) W → PassesOwn (model X.prog X.w) X.A X.env xe → PSs (X.tr pn xe) body (tb W)) (hh : Clauses X (h1 :: hds) l) :
    PS X (.Try body (h1 :: hds) [] [] pos) (tTry X.K tb Wo l) := ps_try_mix hs hf tk hb hh
section
variable {K : PySem.W.Frag} {F : Fx} {ρ : En} {k : AV → En → Prop} {ks : KS}
theorem ws_tryT {tb : WX → TS} {l : List (Value × Option Nat × Suite)} (xk : Addr → En → Prop)
    (hb : ∀ (F1 : Fx) (W : WX), F1.fr = F.fr → (∀ C ρ' as σ H G, xk C ρ' → EnvOk K F1 ρ' as σ H G → W (.ref C) none σ H) → WpS K F1 (tb W) ρ ks)
    (hs : ∀ C ρ', xk C ρ' → Mix K F C False l ρ' ks) : WpS K F (tTry K tb (fun _ _ _ _ => False) l) ρ ks := ws_try0 xk hb hs
end
/-! ### objects by data -/
def lookD : List Str → List D → Str → Option D
  | n :: ns, d :: ds, f => if (f == n) = true then some d else lookD ns ds f
  | _, _, _ => none
def putN (f : Str) : List Str → List Str
  | [] => [f]
  | g :: r => if g = f then g :: r else g :: putN f r
def putD (f : Str) (d : D) : List Str → List D → List D
  | g :: r, x :: xs => if g = f then d :: xs else x :: putD f d r xs
  | _, _ => [d]
theorem look_rep {K : PySem.W.Frag} {G : Hp} {f : Str} {d : D} : ∀ {ns : List Str} {ds : List D} {vs : List V}, Reps K G ds vs → lookD ns ds f = some d → ∃ v, (ns.zip vs).lookup f = some v ∧ Rep K G d v
  | [], _, _, _, h => by rw [lookD] at h; cases h; simp
  | n :: ns, [], _, _, h => by rw [lookD] at h; cases h; simp
  | n :: ns, x :: ds, _, r, h => by
    cases r with
    | cons a b =>
      rw [lookD] at h
      rw [List.zip_cons_cons, List.lookup_cons]
      by_cases c : (f == n) = true
      · rw [if_pos c] at h
        cases h
        rw [c]
        exact ⟨_, rfl, a⟩
      · rw [if_neg c] at h
        rw [Bool.not_eq_true] at c
        rw [c]
        exact look_rep b h
def hasN (f : Str) : List Str → Bool
  | [] => false
  | n :: ns => (f == n) || hasN f ns
theorem look_none {f : Str} : ∀ {ns : List Str} {vs : List V}, hasN f ns = false → (ns.zip vs).lookup f = none
  | [], _, _ => by simp
  | _ :: _, [], _ => by simp
  | n :: ns, v :: vs, h => by
    rw [hasN, Bool.or_eq_false_iff] at h
    rw [List.zip_cons_cons, List.lookup_cons, h.1]
    exact look_none h.2
theorem put_zip {K : PySem.W.Frag} {G : Hp} {f : Str} {d : D} {v : V} (r : Rep K G d v) : ∀ {ns : List Str} {ds : List D} {vs : List V}, Reps K G ds vs → ns.length = ds.length → ∃ ws, putF f v (ns.zip vs) = (putN f ns).zip ws ∧ (putN f ns).length = (putD f d ns ds).length ∧ Reps K G (putD f d ns ds) ws
  | [], ds, vs, h, l => by
    cases ds with
    | nil => cases h; exact ⟨[v], rfl, rfl, .cons r .nil⟩
    | cons => cases l
  | n :: ns, [], _, _, l => by cases l
  | n :: ns, x :: ds, _, h, l => by
    cases h with
    | cons a b =>
      rename_i w ws
      by_cases c : n = f
      · refine ⟨v :: ws, ?_, ?_, ?_⟩
        · rw [List.zip_cons_cons, putF, if_pos c, putN, if_pos c]; rfl
        · rw [putN, if_pos c, putD, if_pos c]; exact l
        · rw [putD, if_pos c]; exact .cons r b
      · obtain ⟨us, e1, e2, e3⟩ := put_zip (f := f) r b (Nat.succ.inj l)
        refine ⟨w :: us, ?_, ?_, ?_⟩
        · rw [List.zip_cons_cons, putF, if_neg c, putN, if_neg c, e1]; rfl
        · rw [putN, if_neg c, putD, if_neg c, List.length_cons, List.length_cons, e2]
        · rw [putD, if_neg c]; exact .cons a e3
/-- an object: data, or a cell -/
inductive IsO (ρ : En) : AV → Addr → List Str → List D → Prop
  | dat {C : Addr} {ns : List Str} {ds : List D} : IsO ρ (.dat (.obj C ns ds)) C ns ds
  | cel {j : Nat} {C : Addr} {ns : List Str} {ds : List D} : ρ.ce[j]? = some (.ins C ns ds) → IsO ρ (.cel j) C ns ds
def En.addO (ρ : En) (C : Addr) : En := ⟨ρ.sl, ρ.ce ++ [.ins C [] []]⟩
section
variable {K : PySem.W.Frag} {F : Fx} {ρ : En} {k : AV → En → Prop} {ks : KS} {ta tv te : TE} {t : TA}
theorem IsO.rep {as : List Addr} {σ : L2.St} {H G : Hp} {x : AV} {C : Addr} {ns : List Str} {ds : List D} {v : V} (e : EnvOk K F ρ as σ H G) (h : IsO ρ x C ns ds) (r : RepA K G as x v) : ∃ a dx vs, v = .ref a ∧ H a = some (.ins C dx (ns.zip vs)) ∧ ns.length = ds.length ∧ Reps K G ds vs := by
  cases h with
  | dat => obtain ⟨a, dx, vs, rfl, ho, hl, hr⟩ := Rep.objE r; exact ⟨a, dx, vs, rfl, e.gh _ _ ho, hl, hr⟩
  | cel hc =>
    obtain ⟨a, ha, rfl⟩ := r
    obtain ⟨_, _, _, dx, vs, hv, hl, hr⟩ := e.ce _ _ a hc ha
    exact ⟨a, dx, vs, rfl, hv, hl, hr⟩
theorem we_fld {f : Str} (h : WpE K F ta ρ fun x ρ1 => ∃ C ns ds d, IsO ρ1 x C ns ds ∧ Cls K C ∧ NoAttr K C f ∧ lookD ns ds f = some d ∧ k (.dat d) ρ1) : WpE K F (tFld K ta f) ρ k := fun as σ H G e Q q =>
  h as σ H G e _ fun x ρ1 vx as1 H1 G1 ⟨C, ns, ds, d, ho, cl, na, hl, hk⟩ e1 g1 r1 => by
    obtain ⟨a, dx, vs, rfl, hv, _, hr⟩ := ho.rep e1 r1
    obtain ⟨v, hlv, rv⟩ := look_rep hr hl
    exact ⟨a, C, dx, _, v, rfl, hv, cl, na, hlv, q _ _ _ _ _ _ hk e1 g1 rv⟩
theorem ws_fset {f : Str} (h : WpE K F tv ρ fun y ρ1 => WpE K F ta ρ1 fun x ρ2 => ∃ j C ns ds d ρ3, x = .cel j ∧ Frz [y] ρ2 [d] ρ3 ∧ ρ3.ce[j]? = some (.ins C ns ds) ∧ Cls K C ∧ NoAttr K C f ∧ Nat.ble ns.length 900 = true ∧ ks.nx (ρ3.cell j (.ins C (putN f ns) (putD f d ns ds)))) : WpS K F (sFld K ta tv f) ρ ks := fun as σ H G e D q =>
  h as σ H G e _ fun y ρ1 vy as1 H1 G1 h1 e1 g1 r1 => h1 as1 σ H1 G1 e1 _ fun x ρ2 vx as2 H2 G2 ⟨j, C, ns, ds, d, ρ3, ex, fz, hc, cl, na, hl, hk⟩ e2 g2 r2 => by
    subst ex
    obtain ⟨G3, e3, g3, r3⟩ := fz.run e2 (.cons (r1.mono g2) .nil)
    cases r3 with
    | cons ry rn =>
      cases rn
      obtain ⟨a, ha, rfl⟩ := r2
      obtain ⟨_, _, gn, dx, vs, hv, ln, hr⟩ := e3.ce j _ a hc ha
      obtain ⟨ws, ez, ln2, hr2⟩ := put_zip (f := f) ry hr ln
      have hl := Nat.le_of_ble_eq_true hl
      refine ⟨a, C, dx, ns.zip vs, rfl, hv, cl, na, by rw [List.length_zip]; omega, ?_⟩
      rw [ez]
      exact q.nx _ as2 σ _ G3 hk (e3.setO hc ha gn ⟨gn, dx, ws, upd_same, ln2, hr2⟩) (g1.trans (g2.trans g3))
theorem we_meth {C : Addr} {m : Str} {sp : Sp} {E : XK} (h : WpE K F ta ρ fun x ρ1 => ∃ ns ds, IsO ρ1 x C ns ds ∧ hasN m ns = false ∧ WpA K F t ρ1 fun xs ρ2 => WpSp K F sp (fun _ => E) (x :: xs) ρ2 k) : WpE K F (tMeth C m sp [] E ta t) ρ k := fun as σ H G e Q q =>
  h as σ H G e _ fun x ρ1 vx as1 H1 G1 ⟨ns, ds, ho, hn, h1⟩ e1 g1 r1 => by
    obtain ⟨a, dx, vs, rfl, hv, _, hr⟩ := ho.rep e1 r1
    refine ⟨a, dx, _, rfl, hv, look_none hn, h1 as1 σ H1 G1 e1 _ fun xs ρ2 ws as2 H2 G2 h2 e2 g2 r2 => ?_⟩
    rw [List.append_nil]
    exact h2 as2 σ H2 G2 _ e2 (.cons (r1.mono g2) r2) Q (q.imp (g1.trans g2) fun _ _ z => z)
def tMethS (C : Addr) (m : Str) (sp : Sp) (E : L2.St → XK) (ta : TE) (t : TA) : TE := fun u G Q => ta u G fun x G1 => ∃ a dx fs, x = .ref a ∧ G1 a = some (.ins C dx fs) ∧ fs.lookup m = none ∧ t u G1 fun vs G2 => sp (x :: vs) G2 Q (E u)
theorem we_methS {C : Addr} {m : Str} {sp : Sp} {E : L2.St → XK} (h : WpE K F ta ρ fun x ρ1 => ∃ ns ds, IsO ρ1 x C ns ds ∧ hasN m ns = false ∧ WpA K F t ρ1 fun xs ρ2 => WpSp K F sp E (x :: xs) ρ2 k) : WpE K F (tMethS C m sp E ta t) ρ k := fun as σ H G e Q q =>
  h as σ H G e _ fun x ρ1 vx as1 H1 G1 ⟨ns, ds, ho, hn, h1⟩ e1 g1 r1 => by
    obtain ⟨a, dx, vs, rfl, hv, _, hr⟩ := ho.rep e1 r1
    exact ⟨a, dx, _, rfl, hv, look_none hn, h1 as1 σ H1 G1 e1 _ fun xs ρ2 ws as2 H2 G2 h2 e2 g2 r2 => h2 as2 σ H2 G2 _ e2 (.cons (r1.mono g2) r2) Q (q.imp (g1.trans g2) fun _ _ z => z)⟩
/-- a method's call in a try -/
theorem pe_methT {X : Cx} {CT : CXT} {n : Nat} {C f : Addr} {fd : FuncData} {ps : List Str} {m : Str} {sp : Sp} {E : L2.St → XK} {o x : Expr} {es : List Expr} {p pos : Pos} {pl : Sem Bool} (he : PE X o ta) (c : Cls X.K C) (hm : Meth X.K C m f) (F0 : FnOk X.prog X.w X.K X.mg X.base CT n f fd ps sp) (hr : Room n X.A) (hb : Binds X.K fd ps []) (hx : ∀ u, PassesAt CT X u (E u)) (ha : PA X (x :: es) t)
    (s1 : starEach (x :: es) X.env = (false, eval x X.env) :: starEach es X.env := by rfl) (s2 : (backTo pos (starEach es X.env)).any (·.1) = false := by rfl)
    (s3 : eval (.Call (.Attribute o m p) (x :: es) [] pos) X.env = (do
      let r ← eval o X.env
      standAt p.atName
      let (g, a0) ← holding [r] (getMethod r m pl)
      callWith pos g a0 (backTo pos (starEach (x :: es) X.env)) (backToKw pos (keywordEach [] X.env))) := by rfl) : PE X (.Call (.Attribute o m p) (x :: es) [] pos) (tMethS C m sp E ta t) := by
  constructor
  intro pins s u G Q I h
  refine PySem.W.methodCall_KW (pl := pl) (thn (he.run pins s u G _ I h) ?_) s3
  rintro w s' ⟨v, G1, I1, r1, a, dx, fs, rfl, ho, hl, hq⟩
  obtain rfl : w = Value.ref a := r1
  refine getmeth_ok I1 ho c hm hl ?_
  refine PySem.W.callWith_K (first := [.ref a]) (h₀ := X.base) I.ok.mod.kin hm.kp (thn (ha.run pos pins s' u G1 _ I1 hq) ?_) s1 s2
  rintro us s4 ⟨vs, G2, I2, r2, q2⟩
  exact ⟨I2.kIn, run_fnS (us := .ref a :: us) (vs := .ref a :: vs) F0 hr hb (hx u) I2 (.cons rfl r2) q2⟩
/-- C(..) -/
theorem new_obj {as : List Addr} {σ : L2.St} {H G : Hp} {C x dx : Addr} (e : EnvOk K F ρ as σ H G) (hx : H x = none) (hd : H dx = none) (ne : dx ≠ x) : ∃ G', EnvOk K F (ρ.addO C) (as ++ [x]) σ (upd (upd H dx (.own x)) x (.ins C dx [])) G' ∧ Gr G as G' (as ++ [x]) ∧ as.length = ρ.ce.length := by
  obtain ⟨e1, g1⟩ := e.newG (o := .own x) hd
  have hx1 : upd H dx (.own x) x = none := by rw [upd_ne fun z => ne z.symm]; exact hx
  obtain ⟨e2, g2⟩ := e1.newO (o := .ins C dx []) (c0 := .ins C [] []) hx1 (fun gp => ⟨gp, dx, [], by rw [upd_same]; rfl, rfl, .nil⟩)
  exact ⟨_, e2, g1.trans g2, e.ln⟩
theorem we_make {C : Addr} {sp : Sp} {E : XK} (h : WpA K F t ρ fun xs ρ1 => ∃ ds ρ2, Frz xs ρ1 ds ρ2 ∧ WpSp K F sp (fun _ => E) (.cel ρ2.ce.length :: ds.map .dat) (ρ2.addO C) fun r ρ3 => r = .dat .non ∧ k (.cel ρ2.ce.length) ρ3) : WpE K F (tMake C sp [] E t) ρ k := fun as σ H G e Q q =>
  h as σ H G e _ fun xs ρ1 vs as1 H1 G1 ⟨ds, ρ2, fz, h1⟩ e1 g1 r1 x dx hx hd ne => by
    obtain ⟨G2, e2, g2, r2⟩ := fz.run e1 r1
    obtain ⟨G3, e3, g3, ln⟩ := new_obj (C := C) e2 hx hd ne
    have rl : RepA K G3 (as1 ++ [x]) (.cel ρ2.ce.length) (.ref x) := RepA.last ln
    rw [List.append_nil]
    refine h1 _ σ _ G3 _ e3 (.cons rl ((Reps.as (as := as1) r2).mono g3)) _ ?_
    rintro av ρ3 v as4 H4 G4 ⟨rfl, hk⟩ e4 g4 r4
    exact ⟨Rep.nonE r4, q _ _ _ _ _ _ hk e4 (g1.trans (g2.trans (g3.trans g4))) (rl.mono g4)⟩
/-- C(*xs) -/
theorem we_makeS {C : Addr} {sp : Sp} {E : XK} (h : WpE K F te ρ fun y ρ1 => ∃ ds, (IsL ρ1 y ds ∨ y = .dat (.tup ds)) ∧ WpSp K F sp (fun _ => E) (.cel ρ1.ce.length :: ds.map .dat) (ρ1.addO C) fun r ρ3 => r = .dat .non ∧ k (.cel ρ1.ce.length) ρ3) : WpE K F (tMakeS K C sp E te) ρ k := fun as σ H G e Q q =>
  h as σ H G e _ fun y ρ1 vy as1 H1 G1 ⟨ds, hy, h1⟩ e1 g1 r1 => by
    obtain ⟨a, vs, rfl, hs, hr⟩ : ∃ a vs, vy = .ref a ∧ (SqT K H1 a vs ∨ SqL K H1 a vs) ∧ Reps K G1 ds vs := by
      rcases hy with hy | rfl
      · obtain ⟨a, vs, e0, hs, hr⟩ := hy.rep e1 r1
        exact ⟨a, vs, e0, .inr hs, hr⟩
      · obtain ⟨a, vs, e0, hs, hr⟩ := Rep.tupE r1
        exact ⟨a, vs, e0, .inl (Same.seqT e1.gh hs), hr⟩
    refine ⟨a, vs, rfl, hs, fun x dx hx hd ne => ?_⟩
    obtain ⟨G3, e3, g3, ln⟩ := new_obj (C := C) e1 hx hd ne
    have rl : RepA K G3 (as1 ++ [x]) (.cel ρ1.ce.length) (.ref x) := RepA.last ln
    refine h1 _ σ _ G3 _ e3 (.cons rl ((Reps.as (as := as1) hr).mono g3)) _ ?_
    rintro av ρ3 v as4 H4 G4 ⟨rfl, hk⟩ e4 g4 r4
    exact ⟨Rep.nonE r4, q _ _ _ _ _ _ hk e4 (g1.trans (g3.trans g4)) (rl.mono g4)⟩
/-- a, *b = .. -/
theorem wg_star {g0 g1 : TG} {d : D} {ds : List D} {kn : En → Prop} (h : WpG K F g0 (.dat d) (ρ.add ds) fun ρ1 => WpG K F g1 (.cel ρ.ce.length) ρ1 kn) : WpG K F (gStar K g0 g1) (.dat (.tup (d :: ds))) ρ kn := fun as σ H G v e r Q q => by
  obtain ⟨a, vs, rfl, hs, hr⟩ := Rep.tupE r
  cases hr with
  | cons rx rs =>
    refine ⟨a, _, _, rfl, Same.seqT e.gh hs, fun l hl => ?_⟩
    obtain ⟨e2, g2⟩ := e.newC hl rs
    have rl : RepA K G (as ++ [l]) (.cel ρ.ce.length) (.ref l) := RepA.last e.ln
    exact h _ σ _ G _ e2 (Rep.mono (Same.refl _) _ _ rx) _ fun ρ1 as1 σ1 H1 G1 h1 e1 g1 => h1 as1 σ1 H1 G1 _ e1 (rl.mono g1) Q fun ρ2 as2 σ2 H2 G2 h2 e2 gg => q _ _ _ _ _ h2 e2 (g2.trans (g1.trans gg))
/-- a new thing that nobody writes to is data at once -/
def frzO (k : AV → En → Prop) : AV → En → Prop := fun av ρ' => ∃ j c d, av = .cel j ∧ ρ'.ce[j]? = some c ∧ celD c = some d ∧ k (.dat d) (ρ'.frzD j d)
theorem got_frzO {as : List Addr} {σ : L2.St} {G : Hp} {Q : VK} (q : Got K F ρ as σ G k Q) : Got K F ρ as σ G (frzO k) Q := fun av ρ' v as' H' G' ⟨j, c, d, ea, hc, hd, hk⟩ e' g' ra => by
  subst ea
  obtain ⟨a, ha, rfl⟩ := ra
  obtain ⟨o, e2, g2, rr⟩ := e'.frzD hc ha hd
  exact q _ _ _ as' H' _ hk e2 (g'.trans g2) rr
theorem we_frzO (h : WpE K F te ρ (frzO k)) : WpE K F te ρ k := fun as σ H G e Q q => h as σ H G e Q (got_frzO q)
theorem ws_frzO {t : TS} {j : Nat} {c : Cell} {d : D} (hj : ρ.ce[j]? = some c) (hd : celD c = some d) (h : WpS K F t (ρ.frzD j d) ks) : WpS K F t ρ ks := fun as σ H G e D q => by
  have hl : j < as.length := by rw [e.ln]; exact (List.getElem?_eq_some_iff.mp hj).1
  obtain ⟨o, e2, g2, _⟩ := e.frzD hj (List.getElem?_eq_getElem hl) hd
  exact h as σ H _ e2 D (EndsOk.grow K F q g2)
/-- isinstance of an own class -/
theorem wc_isO {x : AV} {C Y : Addr} {ns : List Str} {ds : List D} {b : Bool} (ho : IsO ρ x C ns ds) (ty : ∀ {H : Hp} {a dx : Addr} {fs : List (Str × V)}, H a = some (.ins C dx fs) → TyX K H (.ref a) (.ref C)) (hb : PySem.W.kitOne K (.ref C) (.ref Y) = some b) (hk : k (.dat (.bl b)) ρ) : WpC K F (rIsi K) [x, .dat (.cls Y)] ρ k := fun as σ H G vs e r Q q => by
  cases r with
  | cons r1 r2 =>
    cases r2 with
    | cons r2 r3 =>
      cases r3
      cases (show Rep K G (.cls Y) _ from r2)
      obtain ⟨a, dx, vs, rfl, hv, _, _⟩ := ho.rep e r1
      exact ⟨_, _, _, _, b, rfl, .own Y, ty hv, hb, q _ ρ _ as H G hk e .refl (Rep.bl _)⟩
/-- all of truths -/
theorem Reps.bls {G : Hp} : ∀ {bs : List Bool} {vs : List V}, Reps K G (bs.map D.bl) vs → vs = bs.map V.bl
  | [], _, h => by cases h; rfl
  | b :: bs, _, h => by
    cases h with
    | cons a c => cases a; rw [Reps.bls c]; rfl
theorem wc_all {x : AV} {bs : List Bool} (hx : IsL ρ x (bs.map D.bl)) (hk : k (.dat (.bl (bs.all id))) ρ) : WpC K F (rAll K) [x] ρ k := fun as σ H G vs e r Q q => by
  cases r with
  | cons r1 r2 =>
    cases r2
    obtain ⟨a, vs, rfl, hs, hr⟩ := hx.rep e r1
    rw [Reps.bls hr] at hs
    exact ⟨a, bs, rfl, hs, q _ ρ _ as H G hk e .refl (Rep.bl _)⟩
end
/-- a reading that is one of two -/
theorem we_or1 {K : PySem.W.Frag} {F : Fx} {ρ : En} {k : AV → En → Prop} {t1 t2 : TE} (h : WpE K F t1 ρ k) : WpE K F (fun σ H Q => t1 σ H Q ∨ t2 σ H Q) ρ k := fun as σ H G e Q q => .inl (h as σ H G e Q q)
theorem we_or2 {K : PySem.W.Frag} {F : Fx} {ρ : En} {k : AV → En → Prop} {t1 t2 : TE} (h : WpE K F t2 ρ k) : WpE K F (fun σ H Q => t1 σ H Q ∨ t2 σ H Q) ρ k := fun as σ H G e Q q => .inr (h as σ H G e Q q)
/-! ### a method's call with keywords alone -/
def tMethK (C : Addr) (m : Str) (sp : Sp) (n : Nat) (gV : List V → List V → List V) (E : XK) (ta : TE) (tk : TA) : TE := fun u G Q => ta u G fun x G1 => ∃ a dx fs, x = .ref a ∧ G1 a = some (.ins C dx fs) ∧ fs.lookup m = none ∧ tk u G1 fun zs G2 => zs.length = n ∧ sp (gV [x] zs) G2 Q E
theorem pe_methK0 {X : Cx} {CT : CXT} {n : Nat} {C f : Addr} {fd : FuncData} {ps ks : List Str} {m : Str} {sp : Sp} {E : XK} {o : Expr} {kws : List Keyword} {p pos : Pos} {pl : Sem Bool} {ta : TE} {tk : TA} {g : List Value → List Value → List Value} {gV : List V → List V → List V} (he : PE X o ta) (c : Cls X.K C) (hm : Meth X.K C m f) (F0 : FnOk X.prog X.w X.K X.mg X.base CT n f fd ps sp) (hr : Room n X.A) (hb : KBn X.K fd ps 1 ks g gV) (hx : Passes CT X E) (hkw : PK X kws tk)
    (hall : (backToKw pos (keywordEach kws X.env)).all (·.1.isSome) = true := by rfl) (hks : (backToKw pos (keywordEach kws X.env)).filterMap (·.1) = ks := by rfl)
    (hpl : ((backTo pos (starEach [] X.env)).any (·.1) || (backToKw pos (keywordEach kws X.env)).any (·.1.isNone)) = false := by rfl)
    (s3 : eval (.Call (.Attribute o m p) [] kws pos) X.env = (do
      let r ← eval o X.env
      standAt p.atName
      let (h, a0) ← holding [r] (getMethod r m pl)
      callWith pos h a0 (backTo pos (starEach [] X.env)) (backToKw pos (keywordEach kws X.env))) := by rfl) : PE X (.Call (.Attribute o m p) [] kws pos) (tMethK C m sp ks.length gV E ta tk) := by
  constructor
  intro pins s u G Q I h
  refine PySem.W.methodCall_KW (pl := pl) (thn (he.run pins s u G _ I h) ?_) s3
  rintro w s' ⟨v, G1, I1, r1, a, dx, fs, rfl, ho, hl, hq⟩
  obtain rfl : w = Value.ref a := r1
  refine getmeth_ok I1 ho c hm hl ?_
  refine PySem.W.callWith_KW0 (first := [.ref a]) (h₀ := X.base) I.ok.mod.kin hm.kp hall (thn (hkw.run pos pins s' u G1 _ I1 hq) ?_) hpl
  rintro ws s4 ⟨zs, G2, I2, rz, l2, q2⟩
  refine ⟨I2.kIn, ?_⟩
  rw [hks]
  exact run_fnN (us := [.ref a]) (vs := [.ref a]) F0 hr hb hx I2 (.cons rfl .nil) rz rfl l2 q2
section
variable {K : PySem.W.Frag} {F : Fx} {ρ : En} {k : AV → En → Prop} {ta tb tc : TE} {t tk : TA}
theorem we_methK {C : Addr} {m : Str} {sp : Sp} {n : Nat} {gV : List V → List V → List V} {E : XK} (h : WpE K F ta ρ fun x ρ1 => ∃ ns ds, IsO ρ1 x C ns ds ∧ hasN m ns = false ∧ WpA K F tk ρ1 fun ys ρ2 => ∃ zs, ys.length = n ∧ (∀ G as v ws, RepA K G as x v → RepAs K G as ys ws → RepAs K G as zs (gV [v] ws)) ∧ WpSp K F sp (fun _ => E) zs ρ2 k) : WpE K F (tMethK C m sp n gV E ta tk) ρ k := fun as σ H G e Q q =>
  h as σ H G e _ fun x ρ1 vx as1 H1 G1 ⟨ns, ds, ho, hn, h1⟩ e1 g1 r1 => by
    obtain ⟨a, dx, vs, rfl, hv, _, hr⟩ := ho.rep e1 r1
    exact ⟨a, dx, _, rfl, hv, look_none hn, h1 as1 σ H1 G1 e1 _ fun ys ρ2 ws as2 H2 G2 ⟨zs, hl, hg, h2⟩ e2 g2 r2 => ⟨by rw [r2.length]; exact hl, h2 as2 σ H2 G2 _ e2 (hg _ _ _ _ (r1.mono g2) r2) Q (q.imp (g1.trans g2) fun _ _ z => z)⟩⟩
/-- C(.., k=..) -/
theorem we_makeK {C : Addr} {n m : Nat} {sp : Sp} {gV : List V → List V → List V} {E : XK} (h : WpA K F t ρ fun xs ρ1 => WpA K F tk ρ1 fun ys ρ2 => ∃ ds es fs : List D, xs = ds.map .dat ∧ ys = es.map .dat ∧ ds.length = n ∧ es.length = m ∧ (∀ G as x vs ws, RepAs K G as xs vs → RepAs K G as ys ws → RepAs K G as (fs.map .dat) (gV (x :: vs) ws).tail ∧ (gV (x :: vs) ws).head? = some x) ∧ WpSp K F sp (fun _ => E) (.cel ρ2.ce.length :: fs.map .dat) (ρ2.addO C) fun r ρ3 => r = .dat .non ∧ k (.cel ρ2.ce.length) ρ3) : WpE K F (tMakeK C n m sp gV E t tk) ρ k := fun as σ H G e Q q =>
  h as σ H G e _ fun xs ρ1 vs as1 H1 G1 h1 e1 g1 r1 => h1 as1 σ H1 G1 e1 _ fun ys ρ2 ws as2 H2 G2 ⟨ds, es, fs, ex, ey, l1, l2, hg, h2⟩ e2 g2 r2 => by
    refine ⟨by rw [r1.length, ex, List.length_map]; exact l1, by rw [r2.length, ey, List.length_map]; exact l2, fun x dx hx hd ne => ?_⟩
    obtain ⟨G3, e3, g3, ln⟩ := new_obj (C := C) e2 hx hd ne
    have rl : RepA K G3 (as2 ++ [x]) (.cel ρ2.ce.length) (.ref x) := RepA.last ln
    obtain ⟨h3, h4⟩ := hg G3 (as2 ++ [x]) (.ref x) vs ws (r1.mono (g2.trans g3)) (r2.mono g3)
    obtain ⟨v0, us, eg⟩ : ∃ v0 us, gV (.ref x :: vs) ws = v0 :: us := by
      cases hh : gV (.ref x :: vs) ws with
      | nil => rw [hh] at h4; cases h4
      | cons v0 us => exact ⟨v0, us, rfl⟩
    rw [eg] at h3 h4 ⊢
    cases h4
    refine h2 _ σ _ G3 _ e3 (.cons rl h3) _ ?_
    rintro av ρ3 v as4 H4 G4 ⟨rfl, hk⟩ e4 g4 r4
    exact ⟨Rep.nonE r4, q _ _ _ _ _ _ hk e4 (g1.trans (g2.trans (g3.trans g4))) (rl.mono g4)⟩
theorem ch_var {i : Nat} {l : Int} {as : List Addr} {σ : L2.St} {H G : Hp} {Q : VK} (e : EnvOk K F ρ as σ H G) (h : ρ.sl[i]? = some (some (.dat (.int l)))) : Q (.int l) H → tVar i σ H Q := fun q => by
  obtain ⟨v, hv, r⟩ := e.sl i _ h
  exact ⟨v, hv, by rw [Rep.intE r]; exact q⟩
/-- .. where the last one is a name or a number that is written -/
theorem we_chV {g g' : Int → Int → Bool} {i : Nat} (h : WpE K F ta ρ fun x ρ1 => WpE K F tb ρ1 fun y ρ2 => ∃ a b l, x = .dat (.int a) ∧ y = .dat (.int b) ∧ ρ2.sl[i]? = some (some (.dat (.int l))) ∧ k (.dat (.bl (g a b && g' b l))) ρ2) : WpE K F (tChI g g' ta tb (tVar i)) ρ k := fun as σ H G e Q q =>
  h as σ H G e _ fun x ρ1 vx as1 H1 G1 h1 e1 g1 r1 => h1 as1 σ H1 G1 e1 _ fun y ρ2 vy as2 H2 G2 ⟨a, b, l, ex, ey, hs, hk⟩ e2 g2 r2 => by
    subst ex ey
    exact ch_var e2 hs ⟨a, b, l, Rep.intE (r1.mono g2), Rep.intE r2, rfl, rfl, q _ _ _ _ _ _ hk e2 (g1.trans g2) (Rep.bl _)⟩
theorem we_chC {g g' : Int → Int → Bool} {l : Int} (h : WpE K F ta ρ fun x ρ1 => WpE K F tb ρ1 fun y ρ2 => ∃ a b, x = .dat (.int a) ∧ y = .dat (.int b) ∧ k (.dat (.bl (g a b && g' b l))) ρ2) : WpE K F (tChI g g' ta tb (tC (.int l))) ρ k := fun as σ H G e Q q =>
  h as σ H G e _ fun x ρ1 vx as1 H1 G1 h1 e1 g1 r1 => h1 as1 σ H1 G1 e1 _ fun y ρ2 vy as2 H2 G2 ⟨a, b, ex, ey, hk⟩ e2 g2 r2 => by
    subst ex ey
    exact ⟨a, b, l, Rep.intE (r1.mono g2), Rep.intE r2, rfl, rfl, q _ _ _ _ _ _ hk e2 (g1.trans g2) (Rep.bl _)⟩
end
section
variable {K : PySem.W.Frag} {F : Fx} {ρ : En} {k : AV → En → Prop} {ta tb tc : TE}
/-- a < b < c, the second step only where the first is true -/
theorem we_chain {r r' : R2} (h : WpE K F ta ρ fun x ρ1 => WpE K F tb ρ1 fun y ρ2 => WpR K F r x y ρ2 fun z ρ3 => ∃ b, z = .dat (.bl b) ∧ if b = true then WpE K F tc ρ3 fun w ρ4 => WpR K F r' y w ρ4 k else k (.dat (.bl false)) ρ3) : WpE K F (tChain r r' ta tb tc) ρ k := fun as σ H G e Q q =>
  h as σ H G e _ fun x ρ1 vx as1 H1 G1 h1 e1 g1 r1 => h1 as1 σ H1 G1 e1 _ fun y ρ2 vy as2 H2 G2 h2 e2 g2 r2 => by
    refine h2 as2 σ H2 G2 vx vy e2 (r1.mono g2) r2 _ ?_
    rintro z ρ3 vz as3 H3 G3 ⟨b, rfl, h3⟩ e3 g3 r3
    refine ⟨b, Rep.blE r3, ?_⟩
    cases b with
    | true =>
      refine (show WpE K F tc ρ3 _ from h3) as3 σ H3 G3 e3 _ ?_
      exact fun w ρ4 vw as4 H4 G4 h4 e4 g4 r4 => h4 as4 σ H4 G4 vy vw e4 ((r2.mono g3).mono g4) r4 Q (q.imp (g1.trans (g2.trans (g3.trans g4))) fun _ _ z => z)
    | false => exact q _ ρ3 _ as3 H3 G3 h3 e3 (g1.trans (g2.trans g3)) (Rep.bl _)
end
/-! ### a well: a list of three whole numbers from which is drawn -/
def IsW (s : List D) : Prop := ∃ x y z : Int, s = [.int x, .int y, .int z]
/-! ### what follows a call, a def's end -/
theorem fin_dat {n : Nat} {post : RV → List Cell → Prop} {ρ : En} {d : D} (ng : noGone (ρ.ce.take n) = true) (q : post (.dat d) (ρ.ce.take n)) : (KS.fin n post).rt (.dat d) ρ := ⟨_, .dat d, ng, q⟩
section
variable {K : PySem.W.Frag} {F : Fx} {ρ : En} {k : AV → En → Prop} {x : AV}
theorem OfD.as {d : D} {xs : List AV} {ds : List D} (h : OfD ρ x d) (r : AsD ρ xs ds) : AsD ρ (x :: xs) (d :: ds) := by
  cases h with
  | dat => exact .dat r
  | cel hc => exact .cel hc r
theorem aft_hard {xs : List AV} {d : D} (h : hard d = true) (hk : k (.dat d) ρ) : aft ρ xs k (.dat d) := ⟨by rw [h, Bool.or_true], hk⟩
theorem aft_hards {xs : List AV} {ds : List D} (h : hards ds = true) (hk : k (.cel ρ.ce.length) (ρ.add ds)) : aft ρ xs k (.new ds) := ⟨by rw [h, Bool.or_true], hk⟩
end
/-! ### a lambda without parameters that a def calls in a try: what its making leaves, told to the place -/
section
open LamX
/-- the table at P stands, or tells one code object more, which is new -/
inductive Grown (q : Str) (P : Addr) (G0 : Hp) : Hp → Addr → Prop
  | hit {z : Addr} {ps : Array Value} {po : Pos} : G0 P = some (.tbl ps) → codeAmong po ps.toList = some (.ref z) → Grown q P G0 G0 z
  | new {z : Addr} {ps : Array Value} {po : Pos} : G0 P = some (.tbl ps) → G0 z = none → Grown q P G0 (upd (upd G0 P (.tbl (ps ++ #[rawInt po.line, rawInt po.col, .ref z]))) z (CodeO z q)) z
theorem lam_made {X : Cx} {pins : List (Addr × Obj)} {u : L2.St} {G : Hp} {sh : Shared} {c P : Addr} {q : Str} {ar : Arguments} {bd : Expr} {sc : Scope} {po : Pos} {E Q : Value → Shared → Prop} (J : Inv X pins u G sh) (tb : TabB X.base X.mg c P) (hc : X.env.code = .ref c) (eq : X.env.qual ++ "<lambda>" = q) (ht : TabS G P q)
    (hd : defaultsOf ar X.env = ([], [])) (hf : ∀ y ∈ sc.names, y.2 = .free → ∃ z, X.env.cells.lookup y.1 = some z)
    (go : ∀ (f z : Addr) (pm ct : Value) (G1 : Hp) (s1 : Shared), Inv X pins u G1 s1 → Grown q P G G1 z → G1 z = some (CodeO z q) → s1.heap.get? f = some (PySem.W.kla_obj "<lambda>" q ar bd sc (cloFrom X.env.cells sc.names []) pm z ct) → G1 f = none → f ∉ frs X.stack → Q (.ref f) s1) :
    wpAny (model X.prog X.w) X.A (eval (.Lambda ar bd sc po) X.env) Q E sh := by
  subst eq
  obtain ⟨ps, gP, tr, al⟩ := ht
  have hbu : sh.heap.BuiltinsAt X.mg P := tb.bm.keeps J.bk
  have hp1 : sh.heap.get? P = some { cls := .none, data := .fields ps } := J.hok P _ gP
  have out : ∀ f, sh.heap.objs.size ≤ f → f ∉ frs X.stack := by
    intro f le mem
    rcases List.mem_cons.mp (J.stkSub _ mem) with y | y
    · have l1 := J.lt
      rw [← y] at l1
      exact absurd (Nat.lt_of_lt_of_le l1 le) (Nat.lt_irrefl _)
    · exact J.nofs le y
  refine PySem.W.kla_eval hd ?_
  rcases hcs : codeAmong po ps.toList with _ | cv
  · refine PySem.W.kla_makeFunction (mg := X.mg) (c := c) (P := P) (ps := ps) (closure_ok hf) J.ok.glob (J.mod.glob.keeps J.bk) hc (tb.code.keeps J.bk) hp1 tr hcs tb.gP hbu ?_
    intro z ct h1 tk ex ge lt rec ntb
    obtain ⟨z2, oz, vs, t, ez, hz, dz, nz⟩ := rec
    cases ez
    have le1 : sh.heap.objs.size ≤ h1.objs.size := by omega
    have zn : G z = none := J.hok.fresh ge
    refine go h1.objs.size z ((X.mg "__name__").getD .none) ct _ _ (inv_table (t' := tk) (more := #[rawInt po.line, rawInt po.col, .ref z]) (h' := h1.push (PySem.W.kla_obj "<lambda>" (X.env.qual ++ "<lambda>") ar bd sc (cloFrom X.env.cells sc.names []) ((X.mg "__name__").getD .none) z ct)) J gP ?_ (Heap.get?_push_of_some _ ntb) ge ⟨oz, vs, t, Heap.get?_push_of_some _ hz, dz, nz⟩) (.new gP zn) upd_same (Heap.get?_push_size _ rfl) ?_ (out _ le1)
    · exact fun b o nb eb => Heap.get?_push_of_some _ (ex b o nb eb)
    · have d1 : h1.objs.size ≠ z := fun y => absurd (y ▸ lt) (Nat.lt_irrefl _)
      have d2 : h1.objs.size ≠ P := fun y => absurd (Nat.lt_of_lt_of_le (Heap.lt_size hp1) (y ▸ le1)) (Nat.lt_irrefl _)
      rw [upd_ne d1, upd_ne d2]
      exact J.hok.fresh le1
  · obtain ⟨z, rfl, zc⟩ := al po cv hcs
    refine PySem.W.kla_makeFunctionHit (mg := X.mg) (c := c) (P := P) (ps := ps) (closure_ok hf) J.ok.glob (J.mod.glob.keeps J.bk) hc (tb.code.keeps J.bk) hp1 tr hcs hbu ?_
    intro ct h1 tk ex le1
    exact go h1.objs.size z ((X.mg "__name__").getD .none) ct G _ (J.kept (t' := tk) fun b o eb => Heap.get?_push_of_some _ (ex b o eb)) (.hit gP hcs) zc (Heap.get?_push_size _ rfl) (J.hok.fresh le1) (out _ le1)
/-- what the def reads that calls the lambda at its first slot -/
def tAct (f z : Addr) (q : Str) (r : XK → Hp → VK → Prop) (W : WX) : TE := fun u G Q => u[0]? = some (some (.ref f)) ∧ G z = some (CodeO z q) ∧ r (WE W u) G Q
theorem pe_actW {X : Cx} {pins : List (Addr × Obj)} {u : L2.St} {G : Hp} {sh : Shared} {Ng : List Str} {qg : Str} {sg : Scope} {g f z : Addr} {cdg pm ct : Value} {ar : Arguments} {bd : Expr} {sc : Scope} {k : Nat} {a : Str} {pn : List (Addr × Obj)} {xe : Value → Shared → Prop} {W : WX} {tl : XK → TE} {p1 p2 : Pos}
    (J : Inv X pins u G sh) (L : LamS X.env.scope sc) (of : sh.heap.get? f = some (PySem.W.kla_obj "<lambda>" (X.env.qual ++ "<lambda>") ar bd sc (cloFrom X.env.cells sc.names []) pm z ct)) (nf : G f = none) (nfr : f ∉ frs X.stack)
    (bi : bindArgs (PySem.W.kla_fn "<lambda>" (X.env.qual ++ "<lambda>") ar bd sc (cloFrom X.env.cells sc.names []) pm (.ref z) ct) ⟨[], []⟩ = pure [])
    (tk : Takes ((cxOf C8.CX0 X.prog X.w X.K X.mg X.base Ng qg sg g cdg X.A X.stack sh G C8.E0).nox.tr pn xe) W) (rm : Room (k + 1) (X.A.deeper (envOfC qg sg sh.heap.objs.size g cdg)))
    (by_ : ∀ (A : Around) (outer : List Env) (s : Shared) (H : Hp) (E : XK), Room k (A.deeper (lamEnv X sc s.heap.objs.size f z)) → PE (lamCx X A outer s H E sc f z) bd (tl E))
    (hN : Ng[0]? = some a) (hv : Vis sg a) (n1 : (a == ("__debug__" : Str)) = false := by decide) (n2 : (a == ("__classdict__" : Str)) = false := by decide) :
    PE ((cxOf C8.CX0 X.prog X.w X.K X.mg X.base Ng qg sg g cdg X.A X.stack sh G C8.E0).nox.tr pn xe) (.Call (.Name a p1) [] [] p2) (tAct f z (X.env.qual ++ "<lambda>") (fun E H Q => tl E u H Q) W) := by
  constructor
  rintro pinsZ sZ uZ GZ Q IZ ⟨at0, atz, ht⟩
  refine wpAny_Call_Name_kw (thn ((pe_var (pos := p1) (i := 0) hN hv n1 n2).run pinsZ sZ uZ GZ (fun v G1 => v = .ref f ∧ G1 = GZ) IZ ⟨.ref f, at0, rfl, rfl⟩) ?_)
  rintro y s1 ⟨v, G1, I1, r1, ev, eG⟩
  subst ev
  subst eG
  obtain rfl : y = Value.ref f := r1
  have of1 := I1.base.keep f _ of nf nfr (fun z => nomatch (show f ∈ ([] : List Addr) from z))
  refine PySem.W.callWith_F0 ⟨_, _, _, _, of1⟩ ?_
  obtain ⟨⟨oz, vs, t, hz, dz, nz⟩, _, _⟩ := I1.hok z _ atz
  refine wpAny_call (codeAny_mono (R := CR (L2.CX X.prog X.w) (envOfC qg sg sh.heap.objs.size g cdg :: X.stack) X.prog X.w G1 s1 Q (WE W uZ)) ?_ fun r s' hq => ?_)
  · show codeAny (model X.prog X.w) (X.A.deeper (envOfC qg sg sh.heap.objs.size g cdg)) (.call (.ref f) ⟨[], []⟩) _ s1
    refine PySem.W.kla_callFunE rm.depth of1 rfl L.co L.gen rfl ⟨z, oz, vs, t, rfl, hz, dz, nz⟩ ?_
    rw [bi]
    refine wpAny_pure (wpAny_newFunctionEnv (fun y hy => (L.own y hy).2) (fun y hy => absurd hy (by simp)) (fun h1 ns1 sb1 => ⟨I1.nolimit.fresh _ sb1, ?_⟩) L.kind)
    have kp : ∀ b o, s1.heap.get? b = some o → h1.get? b = some o := by
      intro b o eb
      exact sb1.extBut b o (Nat.ne_of_lt (Heap.lt_size eb)) (Heap.get?_push_of_some _ eb)
    refine PySem.W.kla_codeExpr (wpAny_mono ((by_ _ _ s1 G1 (WE W uZ) (rm.deeper _)).run [] _ _ G1 Q (lam_start2 (tk := s1.toks + ([] : List (Str × Value)).length) J L I1.env0 rm.hd I1.base ns1 kp) ht) ?_ fun _ _ y => y)
    rintro y s2 ⟨w2, G2, J2, rv, q2⟩
    exact ⟨w2, G2, J2.os, J2.bare, J2.base, J2.hok, rv, q2⟩
  · cases r with
    | error er => exact (passAt tk uZ) pinsZ G1 s1 er s' I1 hq
    | ok fl =>
      cases fl with
      | ret y => exact I1.after hq
      | next => exact hq.elim
      | brk => exact hq.elim
      | cont => exact hq.elim
/-- x(lambda: ..): TT is what x makes of the lambda's reading -/
def tLamW (P : Addr) (q : Str) (TT : (XK → Hp → VK → Prop) → Addr → Hp → VK → Prop) (tl : XK → TE) : TE := fun u G Q => TabS G P q ∧ ∀ G1 z, Grown q P G G1 z → G1 z = some (CodeO z q) → TT (fun E H Q' => tl E u H Q') z G1 Q
theorem pe_lamW {X : Cx} {TT : (XK → Hp → VK → Prop) → Addr → Hp → VK → Prop} {x a q : Str} {g c P : Addr} {k : Nat} {stg : Stmt} {fdg : FuncData} {Ng : List Str} {ar : Arguments} {bd : Expr} {sc : Scope} {tl : XK → TE} {p lp po : Pos} (F : Fun X.K x x stg g fdg) (hb : L2.Binds X.K fdg [a] []) (Sg : FnScope Ng [a] (defScope stg)) (hN : Ng[0]? = some a) (hv : Vis (defScope stg) a)
    (hg : Gl X x) (hm : X.mg x = some (.ref g)) (eq : X.env.qual ++ "<lambda>" = q)
    (hG : ∀ (cdg : Value) (f z : Addr) (s : Shared) (H : Hp) (Q : VK) (r : XK → Hp → VK → Prop), (∀ (W : WX) (pn : List (Addr × Obj)) (xe : Value → Shared → Prop) (p1 p2 : Pos), Takes ((cxOf C8.CX0 X.prog X.w X.K X.mg X.base Ng x (defScope stg) g cdg X.A X.stack s H C8.E0).nox.tr pn xe) W → PE ((cxOf C8.CX0 X.prog X.w X.K X.mg X.base Ng x (defScope stg) g cdg X.A X.stack s H C8.E0).nox.tr pn xe) (.Call (.Name a p1) [] [] p2) (tAct f z q r W)) → TT r z H Q →
      ∃ t, PSs (cxOf C8.CX0 X.prog X.w X.K X.mg X.base Ng x (defScope stg) g cdg X.A X.stack s H C8.E0).nox (defBody stg) t ∧ t { nx := fun _ H' => Q .non H', rt := Q } (L2.start Ng [.ref f]) H)
    (tb : TabB X.base X.mg c P) (hc : X.env.code = .ref c) (rm : Room (k + 2) X.A) (L : LamS X.env.scope sc) (hd : defaultsOf ar X.env = ([], []))
    (bi : ∀ (q : Str) (cl : List (Str × Addr)) (pm cv ct : Value), bindArgs (PySem.W.kla_fn "<lambda>" q ar bd sc cl pm cv ct) ⟨[], []⟩ = pure [])
    (by_ : ∀ (A : Around) (outer : List Env) (s : Shared) (H : Hp) (E : XK) (f z : Addr), Room k (A.deeper (lamEnv X sc s.heap.objs.size f z)) → PE (lamCx X A outer s H E sc f z) bd (tl E))
    (n0 : (x == ("__debug__" : Str)) = false := by decide) (n1 : (a == ("__debug__" : Str)) = false := by decide) (n2 : (a == ("__classdict__" : Str)) = false := by decide) :
    PE X (.Call (.Name x p) [.Lambda ar bd sc lp] [] po) (tLamW P q TT tl) := by
  constructor
  rintro pins sh u G Q J ⟨ht, hq0⟩
  refine wpAny_Call_Name_kw (ld_glob J hg hm ?_ n0)
  refine PySem.W.callWith_K (h₀ := X.base) J.ok.mod.kin F.kp ?_ (by rfl) (by rfl)
  show wpAny _ _ (spliced ((false, eval (.Lambda ar bd sc lp) X.env) :: backTo po (starEach [] X.env))) _ _ sh
  refine Calls.spliced_cons (lam_made J tb hc eq ht hd (L.has J.ok) ?_)
  intro f z pm ct G1 s1 J1 gr cz of nf nfr
  refine Calls.spliced_nil ⟨J1.kIn, ?_⟩
  refine wpAny_call (codeAny_mono (R := CR C8.CX0 X.stack X.prog X.w G1 s1 Q C8.E0) ?_ fun r s2 hq => ?_)
  · obtain ⟨oc, od, kV, doc, pm2, an, cdg, ct2, osl, rfl, lk, hcd⟩ := F.ex
    refine run_ofS (N := Ng) (ps := [a]) (us := [.ref f]) (vs := [.ref f]) lk hcd Sg rm J1.env0 (hb s1 [.ref f] J1.kIn rfl) (.cons rfl .nil) rfl fun rm2 => ?_
    subst eq
    obtain ⟨t, pt, qt⟩ := hG cdg f z s1 G1 Q (fun E H Q' => tl E u H Q') (fun W pn xe p1 p2 tk => pe_actW J1 L of nf nfr (bi _ _ _ _ _) tk rm2 (fun A outer s H E rm3 => by_ A outer s H E f z rm3) hN hv n1 n2) (hq0 G1 z gr cz)
    exact ⟨t, pt.nox, qt⟩
  · cases r with
    | error er => exact (show False from hq).elim
    | ok fl =>
      cases fl with
      | ret y => exact J1.after hq
      | next => exact hq.elim
      | brk => exact hq.elim
      | cont => exact hq.elim
end
/-! ### a lambda that a def calls in a try, by data -/
section
open LamX
variable {K : PySem.W.Frag} {F : Fx} {ρ : En} {k : AV → En → Prop}
def lamQ (qual : Str) : Str := qual ++ ".<locals>." ++ "<lambda>"
/-- the table at P of code objects of the name q, all of them frozen -/
def tabX (P : Addr) (q : Str) : CellX where
  ok G a o := a = P ∧ ∃ ps : Array Value, o = .tbl ps ∧ TriplesOk ps.toList ∧ ∀ (po : Pos) (cv : Value), codeAmong po ps.toList = some cv → ∃ c, cv = .ref c ∧ G c = some (CodeO c q)
  mono := by
    intro G G' s a o h
    obtain ⟨ea, ps, eo, tr, al⟩ := h
    refine ⟨ea, ps, eo, tr, fun po cv hc => ?_⟩
    obtain ⟨c, ec, g⟩ := al po cv hc
    refine ⟨c, ec, ?_⟩
    rcases s c _ g with z | ⟨xs, z⟩
    · exact z
    · exact absurd z (by unfold CodeO; exact fun y => by cases y)
theorem upd_swap {H : Hp} {a b : Addr} {x y : HO} (n : a ≠ b) : upd (upd H a x) b y = upd (upd H b y) a x := by
  funext d
  by_cases h1 : d = b
  · subst h1
    rw [upd_same, upd_ne (Ne.symm n), upd_same]
  · by_cases h2 : d = a
    · subst h2
      rw [upd_ne h1, upd_same, upd_same]
    · rw [upd_ne h1, upd_ne h2, upd_ne h2, upd_ne h1]
/-- the table has grown, and the code object is frozen -/
theorem EnvOk.grown {as : List Addr} {σ : L2.St} {H H1 G : Hp} {j : Nat} {P z : Addr} {q : Str} (e : EnvOk K F ρ as σ H G) (hj : ρ.ce[j]? = some (.oth (tabX P q))) (g : Grown q P H H1 z) : ∃ G1, EnvOk K F ρ as σ H1 G1 ∧ Gr G as G1 as ∧ G1 z = some (CodeO z q) := by
  obtain ⟨a, ha⟩ : ∃ a, as[j]? = some a := ⟨_, List.getElem?_eq_getElem (by rw [e.ln]; exact (List.getElem?_eq_some_iff.mp hj).1)⟩
  obtain ⟨_, _, gn, o, ho, ea, ps0, rfl, tr, al⟩ := e.ce j _ a hj ha
  subst ea
  cases g with
  | hit hp hc =>
    rw [ho] at hp
    cases hp
    obtain ⟨c, ec, gc⟩ := al _ _ hc
    cases ec
    exact ⟨G, e, .refl, gc⟩
  | @new _ ps po hp hz =>
    rw [ho] at hp
    cases hp
    have ne : z ≠ a := fun y => by rw [y, ho] at hz; cases hz
    obtain ⟨e1, g1⟩ := e.newG (o := CodeO z q) hz
    have e2 := e1.setO (o := .tbl (ps0 ++ #[rawInt po.line, rawInt po.col, .ref z])) (c' := .oth (tabX a q)) hj ha (by rw [upd_ne (Ne.symm ne)]; exact gn) ⟨by rw [upd_ne (Ne.symm ne)]; exact gn, _, upd_same, rfl, _, rfl, ?_, fun po2 cv hc => ?_⟩
    · rw [upd_swap ne] at e2
      have es : (⟨ρ.sl, ρ.ce.set j (.oth (tabX a q))⟩ : En) = ρ := by
        obtain ⟨sl, ce⟩ := ρ
        have hl : j < ce.length := (List.getElem?_eq_some_iff.mp hj).1
        have he : ce[j] = .oth (tabX a q) := (List.getElem?_eq_some_iff.mp hj).2
        show En.mk sl (ce.set j _) = _
        rw [← he, List.set_getElem_self]
      rw [es] at e2
      exact ⟨_, e2, g1, upd_same⟩
    · rw [show (ps0 ++ #[rawInt po.line, rawInt po.col, Value.ref z]).toList = ps0.toList ++ [rawInt po.line, rawInt po.col, Value.ref z] by simp]
      exact PySem.TriplesOk_snoc _ _ _ _ tr
    · rw [show (ps0 ++ #[rawInt po.line, rawInt po.col, Value.ref z]).toList = ps0.toList ++ [rawInt po.line, rawInt po.col, Value.ref z] by simp] at hc
      rcases among_app _ tr hc with y | y
      · obtain ⟨c, ec, gc⟩ := al po2 cv y
        exact ⟨c, ec, by rw [upd_ne (ne_of_none gc (Same.none e.gh hz))]; exact gc⟩
      · exact ⟨z, y, upd_same⟩
theorem EnvOk.tabS {as : List Addr} {σ : L2.St} {H G : Hp} {j : Nat} {P : Addr} {q : Str} (e : EnvOk K F ρ as σ H G) (hj : ρ.ce[j]? = some (.oth (tabX P q))) : TabS H P q := by
  obtain ⟨a, ha⟩ : ∃ a, as[j]? = some a := ⟨_, List.getElem?_eq_getElem (by rw [e.ln]; exact (List.getElem?_eq_some_iff.mp hj).1)⟩
  obtain ⟨_, _, _, o, ho, ea, ps0, rfl, tr, al⟩ := e.ce j _ a hj ha
  subst ea
  refine ⟨ps0, ho, tr, fun po cv hc => ?_⟩
  obtain ⟨c, ec, gc⟩ := al po cv hc
  exact ⟨c, ec, e.gh _ _ gc⟩
/-- the same cells, other slots -/
theorem EnvOk.slots {F' : Fx} {ρ' : En} {as : List Addr} {σ σ' : L2.St} {H G : Hp} (e : EnvOk K F ρ as σ H G) (hF : F'.Fr = F.Fr) (hG : F'.G0 = F.G0) (ha : F'.as0 = F.as0) (hc : ρ'.ce = ρ.ce) (hn : σ'.length = ρ'.sl.length) (hs : ∀ (i : Nat) (av : AV), ρ'.sl[i]? = some (some av) → ∃ v : V, σ'[i]? = some (some v) ∧ RepA K G as av v) : EnvOk K F' ρ' as σ' H G :=
  ⟨e.gh, by rw [hF]; exact e.fh, by rw [hF, hG]; exact e.fg, by rw [hG]; exact e.g0, e.nd, by rw [ha]; exact e.pr, by rw [hc]; exact e.ln, fun j c a h1 h2 => by rw [hF]; rw [hc] at h1; exact e.ce j c a h1 h2, hn, hs⟩
/-- what a def makes of a lambda that says try: return (w, a()), then clauses that tell each their own -/
def TTry (K : PySem.W.Frag) (Ng : List Str) (w : Str) (q : Str) (l : List (Value × Option Nat × Suite)) : (XK → Hp → VK → Prop) → Addr → Hp → VK → Prop := fun r z H Q =>
  ∀ f : Addr, tTry K (fun W => tRet (tTup (tCons (tC (.str w)) (tCons (tAct f z q r W) tNil)))) (fun _ _ _ _ => False) l { nx := fun _ H' => Q .non H', rt := Q } (L2.start Ng [.ref f]) H
def ksW (ρ : En) (k : AV → En → Prop) : KS where
  nx := fun _ => False
  rt := fun x ρ' => ρ'.ce = ρ.ce ∧ ∃ d, x = .dat d ∧ k (.dat d) ρ
  bk := fun _ => False
  ct := fun _ => False
theorem we_lamW {P : Addr} {q w : Str} {j : Nat} {Ng : List Str} {l : List (Value × Option Nat × Suite)} {tl : XK → TE} (xc : Addr → Prop) (hN : Ng.length = 2) (hj : ρ.ce[j]? = some (.oth (tabX P q)))
    (hb : ∀ (F1 : Fx) (E : XK), (∀ C as σ H G, xc C → EnvOk K F1 ρ as σ H G → E (.ref C) none H) → WpE K F1 (tl E) ρ fun x ρ' => ρ' = ρ ∧ ∃ d, x = .dat d ∧ k (.dat (.tup [.str w, d])) ρ)
    (hs : ∀ (F1 : Fx) (f C : Addr), xc C → Mix K F1 C False l ⟨[some (.dat (.cls f)), none], ρ.ce⟩ (ksW ρ k)) : WpE K F (tLamW P q (TTry K Ng w q l) tl) ρ k := fun as σ H G e Q qq => by
  refine ⟨e.tabS hj, fun H1 z gr _ f => ?_⟩
  obtain ⟨G1, e1, g1, gz⟩ := e.grown hj gr
  have hu : L2.start Ng [V.ref f] = [some (V.ref f), none] := by
    unfold L2.start
    rw [List.length_singleton, hN]
    rfl
  let F1 : Fx := ⟨F.Fr, G1, F.E, F.ex, F.hE, fun _ => False, as⟩
  have f1 : EnvOk K F1 ρ as σ H1 G1 := ⟨e1.gh, e1.fh, fun a o h => .inl h, Same.refl _, e1.nd, List.prefix_refl _, e1.ln, e1.ce, e1.sn, e1.sl⟩
  -- back to the maker
  have back : ∀ {ρ' : En} {as' : List Addr} {σ' : L2.St} {H' G' : Hp}, ρ'.ce = ρ.ce → EnvOk K F1 ρ' as' σ' H' G' → EnvOk K F ρ as' σ H' G' ∧ Gr G as G' as' := by
    intro ρ' as' σ' H' G' hc x
    have gr2 : Gr G1 as G' as' := by
      obtain ⟨r, hr⟩ := x.pr
      exact ⟨x.g0, r, hr.symm⟩
    refine ⟨⟨x.gh, x.fh, fun a o h => ?_, Same.trans e1.g0 x.g0, x.nd, e1.pr.trans x.pr, by rw [x.ln, hc], fun j c a h1 h2 => x.ce j c a (by rw [hc]; exact h1) h2, e1.sn, fun i av hi => ?_⟩, g1.trans gr2⟩
    · rcases x.fg a o h with y | y
      · exact e1.fg a o y
      · exact .inr y
    · obtain ⟨v, hv, r⟩ := e1.sl i av hi
      exact ⟨v, hv, r.mono gr2⟩
  have done : ∀ {ρ' : En} {as' : List Addr} {σ' : L2.St} {H' G' : Hp} {d : D} {v : V}, ρ'.ce = ρ.ce → k (.dat d) ρ → EnvOk K F1 ρ' as' σ' H' G' → Rep K G' d v → Q v H' := by
    intro ρ' as' σ' H' G' d v hc hk x r
    obtain ⟨b1, b2⟩ := back hc x
    exact qq _ _ _ _ _ _ hk b1 b2 r
  show (tRet (tTup (tCons (tC (.str w)) (tCons (tAct f z q (fun E H Q' => tl E σ H Q') (wMix K (fun _ _ _ _ => False) { nx := fun _ H' => Q .non H', rt := Q } l)) tNil)))) { nx := fun _ H' => Q .non H', rt := Q } (L2.start Ng [.ref f]) H1
  rw [hu]
  refine ⟨rfl, e1.gh _ _ gz, ?_⟩
  refine hb F1 _ (fun C as' σ' H' G' hC x => ?_) as σ H1 G1 f1 _ ?_
  · have y : EnvOk K F1 ⟨[some (.dat (.cls f)), none], ρ.ce⟩ as' [some (V.ref f), none] H' G' := x.slots rfl rfl rfl rfl rfl fun i av hi => by
      cases i with
      | zero => cases hi; exact ⟨_, rfl, Rep.cls f⟩
      | succ i =>
        cases i with
        | zero => cases hi
        | succ i => simp at hi
    refine Mix.run (as0 := as') (G0 := G') y (fun z => z.elim) ?_ (hs F1 f C hC)
    exact ⟨fun _ _ _ _ _ z => z.elim, fun av ρ2 v as2 σ2 H2 G2 ⟨hc, d, ed, hk⟩ x2 _ r2 => by subst ed; exact done hc hk x2 r2, fun _ _ _ _ _ z => z.elim, fun _ _ _ _ _ z => z.elim  , fun _ _ z => z.elim⟩
  · exact fun x ρ' v as' H' G' ⟨er, d, ed, hk⟩ x2 g2 r2 => by
      subst er ed
      refine ⟨by rw [sizeLine_eq]; exact (by decide : 2 ≤ 16777216), fun p hp => ?_⟩
      obtain ⟨x3, g3⟩ := x2.newG (o := .tup [.str w, v]) hp
      exact done rfl hk x3 (Rep.tup (SqT.of upd_same) (.cons (.str w) (.cons (Rep.mono g3.1 _ _ r2) .nil)))
end
/-! ### a state to draw from, opened and shut; extend, [::-1]; a state and another cell lent at once -/
section
variable {K : PySem.W.Frag} {F : Fx} {ρ : En} {k : AV → En → Prop} {ks : KS} {te : TE}
theorem EnvOk.recell {as : List Addr} {σ : L2.St} {H G : Hp} {j : Nat} {c c' : Cell} (e : EnvOk K F ρ as σ H G) (hj : ρ.ce[j]? = some c) (h : ∀ a, as[j]? = some a → CellOk K G H a c → CellOk K G H a c') : EnvOk K F (ρ.cell j c') as σ H G := by
  have hl : j < ρ.ce.length := (List.getElem?_eq_some_iff.mp hj).1
  refine ⟨e.gh, e.fh, e.fg, e.g0, e.nd, e.pr, by rw [e.ln]; exact (List.length_set).symm, fun i c2 a hc ha => ?_, e.sn, e.sl⟩
  have hc' : (ρ.ce.set j c')[i]? = some c2 := hc
  by_cases hij : j = i
  · subst hij
    rw [List.getElem?_set_self hl] at hc'
    cases hc'
    obtain ⟨fa, ho, ok⟩ := e.ce j _ a hj ha
    exact ⟨fa, ho, h a ha ok⟩
  · rw [List.getElem?_set_ne hij] at hc'
    exact e.ce i c2 a hc' ha
theorem ws_drwO {t : TS} {j : Nat} (hj : ρ.ce[j]? = some .drw) (h1 : ∀ x : Int, WpS K F t (ρ.cell j (.lst [.int x])) ks) (h3 : ∀ x y z : Int, WpS K F t (ρ.cell j (.lst [.int x, .int y, .int z])) ks) : WpS K F t ρ ks := fun as σ H G e D q => by
  obtain ⟨a, ha⟩ : ∃ a, as[j]? = some a := ⟨_, List.getElem?_eq_getElem (by rw [e.ln]; exact (List.getElem?_eq_some_iff.mp hj).1)⟩
  obtain ⟨_, _, g, xs, hx, st⟩ := e.ce j _ a hj ha
  rcases st with ⟨x, rfl⟩ | ⟨x, y, z, rfl⟩
  · refine h1 x as σ H G (e.recell hj fun b hb _ => ?_) D q
    rw [ha] at hb
    cases hb
    exact ⟨g, _, hx, .cons (.int x) .nil⟩
  · refine h3 x y z as σ H G (e.recell hj fun b hb _ => ?_) D q
    rw [ha] at hb
    cases hb
    exact ⟨g, _, hx, .cons (.int x) (.cons (.int y) (.cons (.int z) .nil))⟩
theorem ws_drw3 {t : TS} {j : Nat} {x y z : Int} (hj : ρ.ce[j]? = some (.lst [.int x, .int y, .int z])) (h : WpS K F t (ρ.cell j .drw) ks) : WpS K F t ρ ks := fun as σ H G e D q => by
  refine h as σ H G (e.recell hj fun b hb ok => ?_) D q
  obtain ⟨g, ws, hw, hr⟩ := ok
  refine ⟨g, ws, hw, ?_⟩
  cases hr with
  | cons a r =>
    cases r with
    | cons b r =>
      cases r with
      | cons c r =>
        cases r
        rw [Rep.intE a, Rep.intE b, Rep.intE c]
        exact .inr ⟨_, _, _, rfl⟩
theorem we_revL (h : WpE K F te ρ fun x ρ1 => ∃ ds, IsL ρ1 x ds ∧ k (.cel ρ1.ce.length) (ρ1.add ds.reverse)) : WpE K F (tRevL K te) ρ k := fun as σ H G e Q q =>
  h as σ H G e _ fun x ρ1 vx as1 H1 G1 ⟨ds, hd, h1⟩ e1 g1 r1 => by
    obtain ⟨a, vs, rfl, hs, hr⟩ := hd.rep e1 r1
    exact ⟨a, vs, rfl, hs, fun p hp => new_list e1 (q.imp g1 fun _ _ z => z) hr.reverse h1 hp⟩
/-- a state to draw from and another cell, both lent, both come back as they are -/
theorem wspO {W : PW0} {E : L2.St → XK} {xs : List AV} {j t : Nat} {X : CellX} (hj : ρ.ce[j]? = some .drw) (ht : ρ.ce[t]? = some (.oth X)) (ho : onlyC j xs = true) (hw : W (xs.map lend) [.drw, .oth X] (fun r cs => cs = [.drw, .oth X] ∧ ∃ d, r = .dat d ∧ k (.dat d) ρ) (fun _ => False)) : WpSp K F (spG K W) E xs ρ k := by
  intro as σ H G vs e rx Q q
  obtain ⟨a, ha⟩ : ∃ a, as[j]? = some a := ⟨_, List.getElem?_eq_getElem (by rw [e.ln]; exact (List.getElem?_eq_some_iff.mp hj).1)⟩
  obtain ⟨b, hb⟩ : ∃ b, as[t]? = some b := ⟨_, List.getElem?_eq_getElem (by rw [e.ln]; exact (List.getElem?_eq_some_iff.mp ht).1)⟩
  have jt : j ≠ t := fun z => by subst z; rw [hj] at ht; cases ht
  have inj : ∀ {i l : Nat} {c : Addr}, as[i]? = some c → as[l]? = some c → i = l := fun h1 h2 => (List.getElem?_inj (List.getElem?_eq_some_iff.mp h1).1 e.nd).mp (h1.trans h2.symm)
  have ab : a ≠ b := fun z => by subst z; exact jt (inj ha hb)
  obtain ⟨fa, hxa, oka⟩ := e.ce j _ a hj ha
  obtain ⟨fb, hxb, okb⟩ := e.ce t _ b ht hb
  have rl : RepAs K G [a, b] (xs.map lend) vs := by
    have main : ∀ (ys : List AV) (ws : List V), onlyC j ys = true → RepAs K G as ys ws → RepAs K G [a, b] (ys.map lend) ws := by
      intro ys
      induction ys with
      | nil => intro ws _ r; cases r; exact .nil
      | cons y ys ih =>
        intro ws ho r
        cases r with
        | cons r1 r2 =>
          cases y with
          | dat d => exact .cons (Rep.mono (Same.refl _) _ _ r1) (ih _ ho r2)
          | cel i =>
            rw [onlyC, Bool.and_eq_true] at ho
            have ei := of_decide_eq_true ho.1
            subst ei
            obtain ⟨p, hp, rfl⟩ := r1
            rw [ha] at hp
            cases hp
            exact .cons ⟨a, rfl, rfl⟩ (ih _ ho.2 r2)
    exact main xs vs ho rx
  refine ⟨G, [a, b], xs.map lend, [.drw, .oth X], _, _, e.gh, ⟨rfl, by simp [ab], fun i c2 d hc hd => ?_⟩, rl, hw, ?_, fun _ _ z => z.elim⟩
  · cases i with
    | zero => simp at hc hd; subst hc hd; exact ⟨hxa, oka⟩
    | succ i =>
      cases i with
      | zero => simp at hc hd; subst hc hd; exact ⟨hxb, okb⟩
      | succ i => simp at hc
  · rintro r cs' v H' G' ⟨rfl, d, rfl, hk⟩ fr sG gh' nw ck rr
    have fr' : ∀ c o, c ≠ a → c ≠ b → H c = some o → H' c = some o := fun c o n1 n2 h => fr c o (by simp [n1, n2]) h
    refine q _ _ v as H' G' hk ⟨gh', fun c o h => fr' c o (ne_of_none h fa) (ne_of_none h fb) (e.fh _ _ h), fun c o h => ?_, Same.trans e.g0 sG, e.nd, e.pr, e.ln, fun i c2 c hc hcc => ?_, e.sn, fun i av hi => ?_⟩ ⟨sG, [], by simp⟩ rr
    · rcases nw c o h with y | y
      · exact e.fg _ _ y
      · exact .inr (Same.none e.fh y)
    · by_cases hij : i = j
      · subst hij
        rw [hj] at hc
        rw [ha] at hcc
        cases hc
        cases hcc
        obtain ⟨h1, h2⟩ := ck.ok 0 .drw a rfl rfl
        exact ⟨fa, h1, h2⟩
      · by_cases hit : i = t
        · subst hit
          rw [ht] at hc
          rw [hb] at hcc
          cases hc
          cases hcc
          obtain ⟨h1, h2⟩ := ck.ok 1 (.oth X) b rfl rfl
          exact ⟨fb, h1, h2⟩
        · obtain ⟨fc, ⟨o, hco⟩, okc⟩ := e.ce i c2 c hc hcc
          have na : c ≠ a := fun z => by subst z; exact hij (inj hcc ha)
          have nb : c ≠ b := fun z => by subst z; exact hit (inj hcc hb)
          refine ⟨fc, ⟨o, fr' _ _ na nb hco⟩, ?_⟩
          have gn : G c = none → G' c = none := fun g => by
            cases z : G' c with
            | none => rfl
            | some o2 =>
              rcases nw c o2 z with y | y
              · rw [g] at y; cases y
              · rw [hco] at y; cases y
          cases c2 with
          | gone => trivial
          | lst es => obtain ⟨g, ws, hw, r⟩ := okc; exact ⟨gn g, ws, fr' _ _ na nb hw, Reps.mono sG _ _ r⟩
          | ins C9 ns9 es => obtain ⟨g, dx9, ws, hw, ln9, r⟩ := okc; exact ⟨gn g, dx9, ws, fr' _ _ na nb hw, ln9, Reps.mono sG _ _ r⟩
          | drw => obtain ⟨g, ws, hw, r⟩ := okc; exact ⟨gn g, ws, fr' _ _ na nb hw, r⟩
          | oth X => obtain ⟨g, o9, hw, r⟩ := okc; exact ⟨gn g, o9, fr' _ _ na nb hw, X.mono (fun _ _ z => .inl (sG _ _ z)) r⟩
    · obtain ⟨v, hv, r⟩ := e.sl i av hi
      exact ⟨v, hv, r.mono ⟨sG, [], by simp⟩⟩
end
/-- arguments as data -/
local macro_rules | `(tactic| walk_at "as") => `(tactic| first
  | exact AsD.nil
  | (apply AsD.dat; walk_at "as")
  | (apply AsD.cel rfl; walk_at "as")
  | fail)
local macro_rules | `(tactic| walk_at "fz") => `(tactic| first
  | exact Frz.nil
  | (apply Frz.dat; walk_at "fz")
  | (apply Frz.cel rfl; walk_at "fz")
  | (apply Frz.ins rfl; walk_at "fz")
  | fail)
local macro_rules | `(tactic| walk_at "il") => `(tactic| first
  | exact IsL.dat _
  | exact IsL.cel rfl
  | exact IsL.scr _
  | fail)
local macro_rules | `(tactic| walk_at "od") => `(tactic| first
  | exact OfD.dat _
  | exact OfD.cel rfl
  | fail)
local macro_rules | `(tactic| walk_at "on") => `(tactic| first
  | exact only_name (by simp)
  | (refine only_tup ?_; repeat first | exact onlys_nil | refine onlys_cons (by simp) ?_)
  | fail)
/-- a call: its arguments as data -/
local macro_rules | `(tactic| walk_at "c") => `(tactic| (refine' wspE ?q1 ?z9; (case q1 => walk_at "as")))
local macro_rules | `(tactic| walk_at "cx") => `(tactic| (refine' wspX ?q1 ?z9; (case q1 => walk_at "as")))
local macro_rules | `(tactic| walk_at "al") => `(tactic| first
  | exact AsL.nil
  | (apply AsL.dat; walk_at "al")
  | (apply AsL.own; walk_at "al")
  | (apply AsL.cel (Nat.ne_of_beq_eq_false rfl) rfl; walk_at "al")
  | fail)
/-- a call that is lent a cell -/
local macro_rules | `(tactic| walk_at "c1") => `(tactic| (refine' wsp1 ?q1 ?q2 ?q3 ?z9; (case q1 => rfl); (case q2 => rfl); (case q3 => rfl)))
local macro_rules | `(tactic| walk_at "c2") => `(tactic| (refine' wsp2 ?q1 ?q2 ?q3 ?z9; (case q1 => rfl); (case q2 => rfl); (case q3 => walk_at "al")))
local macro_rules | `(tactic| walk_at "cd") => `(tactic| (refine' wspD ?q1 ?q2 ?z9; (case q2 => walk_at "al"); (case q1 => rfl)))
/-- one step by data -/
local macro_rules | `(tactic| walk_at "d") => `(tactic| first
  | with_reducible refine ws_seq ?_
  | with_reducible refine ws_asg ?_
  | with_reducible refine ws_ret ?_
  | with_reducible refine ws_if ?_
  | with_reducible refine ws_drop ?_
  | with_reducible refine ws_par ?_
  | with_reducible refine ws_next ?_
  | with_reducible refine ws_retN ?_
  | with_reducible refine ws_break ?_
  | with_reducible refine ws_cont ?_
  | with_reducible refine ws_for ?_
  | ((with_reducible refine' we_var ?v1 ?z9); (case v1 => exact rfl))
  | with_reducible refine we_ci ?_
  | with_reducible refine we_cs ?_
  | with_reducible refine we_cn ?_
  | with_reducible refine we_cb ?_
  | with_reducible refine we_ct ?_
  | with_reducible refine we_op ?_
  | with_reducible refine we_un ?_
  | with_reducible refine we_tCB ?_
  | with_reducible refine wa_nil ?_
  | with_reducible refine wa_cons ?_
  | with_reducible refine we_andV ?_
  | with_reducible refine we_orV ?_
  | with_reducible refine we_notV ?_
  | with_reducible refine we_if ?_
  | with_reducible refine wt_test ?_
  | with_reducible refine wt_B ?_
  | with_reducible refine wt_and ?_
  | with_reducible refine wt_or ?_
  | with_reducible refine wt_not ?_
  | with_reducible refine wt_yes ?_
  | with_reducible refine wt_tru ?_
  | with_reducible refine we_tup ?_
  | with_reducible refine we_lst ?_
  | with_reducible refine we_call ?_
  | with_reducible refine we_callS ?_
  | with_reducible refine wo_none ?_
  | with_reducible refine wo_some ?_
  | with_reducible refine wi_rng1 ?_
  | with_reducible refine wi_rng2 ?_
  | with_reducible refine wg_name ?_
  | with_reducible refine wg_sub ?_
  | with_reducible refine wgs_nil ?_
  | with_reducible refine wgs_cons ?_
  | with_reducible refine wgs_consM ?_
  | with_reducible refine wgs_nilM ?_
  | with_reducible refine wr_I0i ?_
  | with_reducible refine wr_I0b ?_
  | with_reducible refine wr_isN ?_
  | with_reducible refine wr_notN ?_
  | with_reducible refine wr_isB ?_
  | with_reducible refine wr_isnotB ?_
  | (with_reducible refine wu_neg ?_)
  | with_reducible refine wc_abs ?_
  | ((with_reducible refine' wr_eq ?v1 ?z9); (case v1 => exact rfl))
  | ((with_reducible refine' wr_ne ?v1 ?z9); (case v1 => exact rfl))
  | ((with_reducible refine' we_lc ?v0 ?z9); (case v0 => walk_at "on"))
  | ((with_reducible refine' wm_append ?v0 ?v1 ?v2 ?z9); (case v0 => walk_at "fz"); (case v1 => exact rfl))
  | refine we_bm ?_
  | refine we_bm0 ?_
  | refine we_slL ?_
  | refine wi_list ?_
  | refine wi_tup ?_
  | ((refine' wg_tup ?v1 ?z9); (case v1 => exact rfl))
  | ((refine' wr_ixT ?v1 ?z9); (case v1 => exact rfl))
  | ((refine' wr_ixL ?v0 ?v1 ?z9); (case v0 => walk_at "il"); (case v1 => exact rfl))
  | refine wc_lenT ?_
  | ((refine' wc_lenL ?v0 ?z9); (case v0 => walk_at "il"))
  | ((refine' wc_isi ?v0 ?v1 ?z9); (case v0 => simp); (case v1 => exact rfl))
  | ((refine' wc_isiC ?v0 ?v1 ?z9); (case v0 => simp); (case v1 => exact rfl))
  | ((refine' wc_list ?v0 ?z9); (case v0 => walk_at "il"))
  | refine wc_listT ?_
  | ((refine' wc_tuple ?v0 ?z9); (case v0 => walk_at "il"))
  | (first | refine ⟨⟨_, _, rfl, rfl, rfl⟩, ?_⟩ | refine ⟨⟨_, _, rfl, rfl, fun z => by cases z⟩, ?_⟩ | fail)
  | ((with_reducible refine' frz_in ?v0 ?v1 ?z9); (case v0 => walk_at "fz"); (case v1 => exact rfl))
  | ((with_reducible refine' il_in ?v0 ?z9); (case v0 => walk_at "il"))
  | ((with_reducible refine' lc_in ?v0 ?v1 ?v2 ?z9); (case v0 => walk_at "fz"); (case v1 => exact rfl))
  | (refine ⟨_, rfl, ?_⟩)
  | (refine ⟨_, _, rfl, ?_⟩)
  | fail)
/-- steps, and ifs whose test is told -/
local macro_rules | `(tactic| walk_at "D") => `(tactic| repeat (first
  | walk_at "d"
  | refine ifT rfl ?_
  | refine ifF rfl ?_))
/-- the environment written out -/
local macro_rules | `(tactic| walk_at "nrm") => `(tactic| first | (dsimp only [En.put, En.add, En.cell, List.set_cons_zero, List.set_cons_succ, List.cons_append, List.nil_append, List.length_cons, List.length_nil, Nat.zero_add, Nat.reduceAdd]) | skip)

/-- .. with what was frozen and forgotten -/
local macro_rules | `(tactic| walk_at "nr2") => `(tactic| first | (dsimp only [En.start, En.put, En.add, En.cell, En.frz, En.frzD, En.clr, frzA_d, frzA_c, mapC, mapN, Option.map_some, Option.map_none, List.set_cons_zero, List.set_cons_succ, List.cons_append, List.nil_append, List.length_cons, List.length_nil, Nat.zero_add, Nat.reduceAdd, Nat.reduceSub, List.replicate_succ, List.replicate_zero, ↓reduceIte, Nat.reduceEqDiff, reduceCtorEq]) | skip)

local macro_rules | `(tactic| walk_at "nr4") => `(tactic| first | (simp only [En.start, En.put, En.add, En.cell, En.frz, En.frzD, En.clr, frzA_d, frzA_c, mapC, mapN, Option.map_some, Option.map_none, List.set_cons_zero, List.set_cons_succ, List.cons_append, List.nil_append, List.length_cons, List.length_nil, Nat.zero_add, Nat.reduceAdd, Nat.reduceSub, List.replicate_succ, List.replicate_zero, ↓reduceIte, Nat.reduceEqDiff, reduceCtorEq, Nat.succ_ne_self]) | skip)
section
variable {P : Program} {w : World} {K : PySem.W.Frag} {mg : Str → Option Value} {base : Heap}
/-! ### a drawn figure, of a base up to 2 ^ 34 -/
theorem lg_wide {b : Int} (b0 : 0 < b) (b1 : b < 17179869184) : b.natAbs.log2 < 9000 := by
  have h : b.natAbs.log2 < 34 := (Nat.log2_lt (by omega)).mpr (by omega)
  omega
def wDigit : PW0 := fun xs cs post _ => ∃ b : Int, xs = [.cel 0, .dat (.int b)] ∧ cs = [.drw] ∧ 0 < b ∧ b < 17179869184 ∧ ∀ d, 0 ≤ d → d < b → post (.dat (.int d)) [.drw]
def wDigit0 : PW0 := fun xs cs post _ => ∃ b : Int, xs = [.cel 0, .dat (.int b)] ∧ cs = [.drw] ∧ 0 < b ∧ b < 17179869184 ∧ ∀ d x y z, 0 ≤ d → d < b → post (.dat (.int d)) [.lst [.int x, .int y, .int z]]
theorem digit0_of {vs : List V} {H : Hp} {Q : VK} {E : XK} (h : spG K wDigit vs H Q E) : spG K wDigit0 vs H Q E := by
  obtain ⟨G, as, xs, cs, post, exc, gh, ok, rx, ⟨b, rfl, rfl, b0, b1, hp⟩, hq, he⟩ := h
  refine ⟨G, as, _, _, fun r cs' => ∃ (d x y z : Int), r = .dat (.int d) ∧ cs' = [.lst [.int x, .int y, .int z]] ∧ 0 ≤ d ∧ d < b, exc, gh, ok, rx, ⟨b, rfl, rfl, b0, b1, fun d x y z d0 d1 => ⟨d, x, y, z, rfl, rfl, d0, d1⟩⟩, ?_, he⟩
  rintro r cs' v H' G' ⟨d, x, y, z, rfl, rfl, d0, d1⟩ fr sG gh' nw ck rr
  refine hq _ _ v H' G' (hp d d0 d1) fr sG gh' nw ⟨ck.ln, ck.nd, fun j c a hc ha => ?_⟩ rr
  cases j with
  | zero =>
    cases hc
    obtain ⟨h1, g, ws, hw, hr⟩ := ck.ok 0 _ a rfl ha
    refine ⟨h1, g, ws, hw, ?_⟩
    obtain ⟨v1, w1, rfl, r1, hr⟩ := hr.consE
    obtain ⟨v2, w2, rfl, r2, hr⟩ := hr.consE
    obtain ⟨v3, w3, rfl, r3, hr⟩ := hr.consE
    rw [hr.nilE, r1.intE, r2.intE, r3.intE]
    exact .inr ⟨_, _, _, rfl⟩
  | succ j => simp at hc
theorem ok_l_digit (T : Txt K mg) : FnOk P w K mg base CX0 1 T.a_l_digit T.d_l_digit ["_law_state", "_law_base"] (spG K wDigit) := by
  refine FnOk.imp (sp := spG K wDigit0) ?_ (fun vs H Q E h => digit0_of h)
  refine T.F_l_digit.ok sc_l_digit (fun vs H Q E h => spG_len h fun xs cs post exc ⟨b, e, _⟩ => by rw [e]; rfl) (fun cdv A outer s H vs Q E hr h => ⟨_, (pss_cons (ps_if (pt_cmpR op_eq (pe_callB call_len_seq (by rfl) T.m_len (by decide +kernel) (pa_cons (pv 0) pa_nil)) pe_int (nomark _)) (pss_one (ps_expr (pe_bm PySem.F.plainAttrs_list PySem.F.slot_list_extend PySem.F.type_list_extend mt_extend (pv 0) (pa_cons (pe_lst (pa_cons (pe_op op_mod (pe_ix ix_list (pv 0) pe_int (fun _ _ => rfl)) pe_int) (pa_cons pe_int pa_nil))) pa_nil)))) pss_nil)
      (pss_cons (ps_if (pt_cmpR op_ge (pe_ix ix_list (pv 0) pe_int (fun _ _ => rfl)) (pv 1) (nomark _)) (pss_cons (ps_set (i := 2) sc_l_digit.nd rfl (Or.inl rfl) (pe_op op_mod (pe_ix ix_list (pv 0) pe_int (fun _ _ => rfl)) (pv 1)))
      (pss_cons (ps_asg (pe_op op_fdivW (pe_ix ix_list (pv 0) pe_int (fun _ _ => rfl)) (pv 1)) (pg_sub (pv 0) pe_int set_list))
      (pss_one (ps_ret (pv 2))))) pss_nil)
      (pss_cons (ps_asg (pe_op op_add (pe_ix ix_list (pv 0) pe_int (fun _ _ => rfl)) pe_int) (pg_sub (pv 0) pe_int set_list))
      (pss_cons (ps_set (i := 3) sc_l_digit.nd rfl (Or.inl rfl) (pe_op op_mod (pe_op op_mul (pe_op op_add (pe_op op_add (pe_ix ix_list (pv 0) pe_int (fun _ _ => rfl)) (pe_op op_mul pe_int (pe_ix ix_list (pv 0) pe_int (fun _ _ => rfl)))) pe_int) pe_int) pe_int))
      (pss_cons (ps_set (i := 3) sc_l_digit.nd rfl (Or.inl rfl) (pe_op op_mod (pe_op op_mul (pv 3) (pe_op op_add (pe_op op_fdivW (pv 3) pe_int) pe_int)) pe_int))
      (pss_one (ps_ret (pe_op op_mod (pe_op op_mod (pe_op op_mul (pv 3) (pe_op op_add (pe_op op_fdivW (pv 3) pe_int) pe_int)) pe_int) (pv 1))))))))), enter h fun F xs cs post hE hw => ?_⟩)
  obtain ⟨b, rfl, rfl, b0, b1, q⟩ := hw
  refine ws_seq ?_
  generalize hR : (tSeq _ _ : TS) = R
  have rest : ∀ (cc : List Cell) (x y z : Int), WpS K F R ⟨[some (.cel 0), some (.dat (.int b)), none, none], .lst [.int x, .int y, .int z] :: cc⟩ (KS.fin 1 post) := by
    intro cc x y z
    subst hR
    walk_at "D"
    refine ifC (fun c => ?_) (fun c => ?_)
    · walk_at "D"
      refine wr_Ii b0 ?_
      walk_at "D"
      refine wr_Ii ⟨b0, lg_wide b0 b1⟩ ?_
      walk_at "D"
      refine sub_in rfl rfl (by walk_at "fz") rfl (m := 0) rfl ?_
      walk_at "D"
      exact fin_dat rfl (q _ _ _ _ (Int.emod_nonneg _ (by omega)) (Int.emod_lt_of_pos _ b0))
    · walk_at "D"
      refine sub_in rfl rfl (by walk_at "fz") rfl (m := 2) rfl ?_
      walk_at "D"
      refine wr_Ii (.inl (by decide)) ?_
      walk_at "D"
      refine wr_Ii (.inr (by decide)) ?_
      walk_at "D"
      refine wr_Ii (by decide) ?_
      have n0 := Int.emod_nonneg ((y + 7919 * (z + 1) + 1) * 48271) (show (2147483647 : Int) ≠ 0 by decide)
      have n1 := Int.emod_lt_of_pos ((y + 7919 * (z + 1) + 1) * 48271) (show (0 : Int) < 2147483647 by decide)
      walk_at "D"
      generalize (y + 7919 * (z + 1) + 1) * 48271 % 2147483647 = n at *
      refine wr_Ii ⟨by decide, by decide⟩ ?_
      walk_at "D"
      refine wr_Ii (.inl ⟨by omega, by omega⟩) ?_
      walk_at "D"
      refine wr_Ii (by decide) ?_
      have m0 := Int.emod_nonneg (n * (n / 1009 + 69621)) (show (2147483647 : Int) ≠ 0 by decide)
      have m1 := Int.emod_lt_of_pos (n * (n / 1009 + 69621)) (show (0 : Int) < 2147483647 by decide)
      walk_at "D"
      generalize n * (n / 1009 + 69621) % 2147483647 = m at *
      walk_at "D"
      refine wr_Ii ⟨by decide, by decide⟩ ?_
      walk_at "D"
      refine wr_Ii (.inl ⟨by omega, by omega⟩) ?_
      walk_at "D"
      refine wr_Ii (by decide) ?_
      walk_at "D"
      refine wr_Ii b0 ?_
      exact fin_dat rfl (q _ _ _ _ (Int.emod_nonneg _ (by omega)) (Int.emod_lt_of_pos _ b0))
  refine ws_drwO (j := 0) rfl (fun x => ?_) (fun x y z => ?_)
  · walk_at "D"
    refine wr_Ii (by decide) ?_
    walk_at "D"
    refine wm_extend (.cel (j := 1) rfl) rfl (by simp) ?_
    walk_at "D"
    exact rest _ _ _ _
  · walk_at "D"
    exact rest _ _ _ _
theorem wsp_digit {K : PySem.W.Frag} {F : Fx} {ρ : En} {k : AV → En → Prop} {E : L2.St → XK} {j : Nat} {b : Int} (hj : ρ.ce[j]? = some .drw) (b0 : 0 < b) (b1 : b < 17179869184) (h : ∀ d, 0 ≤ d → d < b → k (.dat (.int d)) ρ) : WpSp K F (spG K wDigit) E [.cel j, .dat (.int b)] ρ k :=
  wspD hj (.own (.dat .nil)) ⟨b, rfl, rfl, b0, b1, fun d d0 d1 => ⟨rfl, by show (onlyC j [.cel j, .dat (.int b)] || hard (.int d)) = true; rw [show hard (.int d) = true from rfl, Bool.or_true], h d d0 d1⟩⟩
/-! ### plain data -/
mutual
def pl : D → Bool
  | .tup ds => pls ds
  | .lst ds => pls ds
  | .scr _ => false
  | .obj _ _ _ => false
  | .ty _ => false
  | .cls _ => false
  | _ => true
def pls : List D → Bool
  | [] => true
  | d :: ds => pl d && pls ds
end
theorem pl_ty {d : D} (h : pl d = true) : (tyD d).isSome = true := by cases d <;> first | rfl | (simp [pl] at h)
theorem pls_cons {d : D} {ds : List D} (h : pls (d :: ds) = true) : pl d = true ∧ pls ds = true := by rw [pls, Bool.and_eq_true] at h; exact h
theorem pls_mem {ds : List D} (h : pls ds = true) : ∀ d ∈ ds, pl d = true := by
  induction ds with
  | nil => intro d m; cases m
  | cons e ds ih =>
    intro d m
    obtain ⟨a, b⟩ := pls_cons h
    rcases List.mem_cons.mp m with rfl | m
    · exact a
    · exact ih b d m
def isInt : D → Bool
  | .int _ => true
  | _ => false
def wNumber : PW0 := fun xs cs post _ => ∃ d, xs = [.dat d] ∧ cs = [] ∧ pl d = true ∧ post (.dat (.bl (isInt d))) []
theorem ok_is_number (T : Txt K mg) : FnOk P w K mg base CX0 1 T.a_is_number T.d_is_number ["thing"] (spG K wNumber) := by
  refine T.F_is_number.ok sc_is_number (fun vs H Q E h => spG_len h fun xs cs post exc ⟨a, e, _⟩ => by rw [e]; rfl) (fun cdv A outer s H vs Q E hr h => ⟨_, (pss_one (ps_ret (pe_and (pe_callB call_isi (by rfl) T.m_isinstance (by decide +kernel) (pa_cons (pv 0) (pa_cons (pe_bltn (v := .ty "int") (by rfl) T.m_int (by decide +kernel) rfl) pa_nil))) (pe_one (pe_not (pe_callB call_isi (by rfl) T.m_isinstance (by decide +kernel) (pa_cons (pv 0) (pa_cons (pe_bltn (v := .ty "bool") (by rfl) T.m_bool (by decide +kernel) rfl) pa_nil)))))))), enter h fun F xs cs post hE hw => ?_⟩)
  obtain ⟨d, rfl, rfl, hp, q⟩ := hw
  cases d <;> first
    | (exact Bool.noConfusion (show false = true by simpa [pl] using hp))
    | (walk_at "D"; exact fin_dat rfl q)
def wThing (f : D → Bool) : PW0 := fun xs cs post _ => ∃ d, xs = [.dat d] ∧ cs = [] ∧ pl d = true ∧ post (.dat (.bl (f d))) []
/-! ### whole numbers from low to high -/
def inR (lo hi : Int) : D → Bool
  | .int i => decide (lo ≤ i) && decide (i ≤ hi)
  | _ => false
theorem inR_of {lo hi : Int} {d : D} (h : inR lo hi d = true) : ∃ i, d = .int i ∧ lo ≤ i ∧ i ≤ hi := by
  cases d with
  | int i =>
    have h : (decide (lo ≤ i) && decide (i ≤ hi)) = true := h
    rw [Bool.and_eq_true, decide_eq_true_eq, decide_eq_true_eq] at h
    exact ⟨i, rfl, h.1, h.2⟩
  | _ => cases h
theorem inR_int {lo hi i : Int} (h1 : lo ≤ i) (h2 : i ≤ hi) : inR lo hi (.int i) = true := by
  show (decide (lo ≤ i) && decide (i ≤ hi)) = true
  rw [decide_eq_true h1, decide_eq_true h2]; rfl
def wWhole : PW0 := fun xs cs post _ => ∃ (d : D) (lo hi : Int), xs = [.dat d, .dat (.int lo), .dat (.int hi)] ∧ cs = [] ∧ pl d = true ∧ post (.dat (.bl (inR lo hi d))) []
theorem ok_is_whole (T : Txt K mg) : FnOk P w K mg base CX0 2 T.a_is_whole T.d_is_whole ["thing", "low", "high"] (spG K wWhole) := by
  refine T.F_is_whole.ok sc_is_whole (fun vs H Q E h => spG_len h fun xs cs post exc ⟨a, b, c, e, _⟩ => by rw [e]; rfl) (fun cdv A outer s H vs Q E hr h => ⟨_, (pss_one (ps_ret (pe_and (pe_call (ok_is_number T) (hr.mono (by decide)) (by rfl) T.g_is_number T.F_is_number.kp T.b_is_number .nil pass0 (pa_cons (pv 0) pa_nil)) (pe_one (pe_chainI op_le op_le (pv 1) (pv 0) (pv 2) mn_var mn_var mn_var sh_var))))), enter h fun F xs cs post hE hw => ?_⟩)
  obtain ⟨d, lo, hi, rfl, rfl, hp, q⟩ := hw
  walk_at "D"
  walk_at "c"
  refine ⟨d, rfl, rfl, hp, rfl, ?_⟩
  cases d with
  | int i =>
    walk_at "D"
    refine we_chV ?_
    walk_at "D"
    refine ⟨_, _, _, rfl, rfl, rfl, ?_⟩
    exact fin_dat rfl q
  | _ =>
    walk_at "D"
    exact fin_dat rfl q
end

section
variable {P : Program} {w : World} {K : PySem.W.Frag} {mg : Str → Option Value} {base : Heap}
/-! ### rows of bytes, numbers in them -/
def isRw : D → Bool
  | .lst ds => ds.all (inR 0 255)
  | _ => false
theorem ok_is_bytes (T : Txt K mg) : FnOk P w K mg base CX0 3 T.a_is_bytes T.d_is_bytes ["thing"] (spG K (wThing isRw)) := by
  refine T.F_is_bytes.ok sc_is_bytes (fun vs H Q E h => spG_len h fun xs cs post exc ⟨a, e, _⟩ => by rw [e]; rfl) (fun cdv A outer s H vs Q E hr h => ⟨_, (pss_cons (ps_if (pt_not (pt_val (pe_callB call_isi (by rfl) T.m_isinstance (by decide +kernel) (pa_cons (pv 0) (pa_cons (pe_bltn (v := .ty "list") (by rfl) T.m_list (by decide +kernel) rfl) pa_nil))))) (pss_one (ps_ret pe_bl)) pss_nil)
      (pss_cons (ps_for PassesOwn.never rfl (pi_list (pv 0)) (pg_name (i := 1) sc_is_bytes.nd rfl (Or.inl rfl))
        (pss_one (ps_if (pt_not (pt_val (pe_call (ok_is_whole T) (hr.mono (by decide)) (by rfl) T.g_is_whole T.F_is_whole.kp T.b_is_whole .nil pass0 (pa_cons (pv 1) (pa_cons pe_int (pa_cons pe_int pa_nil)))))) (pss_one (ps_ret pe_bl)) pss_nil)))
      (pss_one (ps_ret pe_bl)))), enter h fun F xs cs post hE hw => ?_⟩)
  obtain ⟨d, rfl, rfl, hp, q⟩ := hw
  cases d with
  | lst ds =>
    have hp : pls ds = true := by rw [pl] at hp; exact hp
    walk_at "D"
    refine loop_by (fun es ρ => ∃ x, ρ = ⟨[some (.dat (.lst ds)), x], []⟩ ∧ pls es = true ∧ post (.dat (.bl (es.all (inR 0 255)))) []) ⟨none, rfl, hp, q⟩ ?_ ?_
    · rintro ρ ⟨x, rfl, _, q⟩
      refine ⟨.dat _, ?_⟩
      walk_at "D"
      exact fin_dat rfl q
    · rintro e es ρ ⟨x, rfl, hp, q⟩
      obtain ⟨pe, hp⟩ := pls_cons hp
      refine ⟨.dat _, ?_⟩
      walk_at "D"
      walk_at "c"
      refine ⟨e, 0, 255, rfl, rfl, pe, rfl, ?_⟩
      rw [List.all_cons] at q
      cases he : inR 0 255 e with
      | false =>
        rw [he] at q
        walk_at "D"
        exact fin_dat rfl q
      | true =>
        rw [he, Bool.true_and] at q
        walk_at "D"
        exact now ⟨_, rfl, hp, q⟩
  | obj => rw [pl] at hp; cases hp
  | scr => rw [pl] at hp; cases hp
  | ty => rw [pl] at hp; cases hp
  | cls => rw [pl] at hp; cases hp
  | _ => walk_at "D"; exact fin_dat rfl q
def wRefBytes (C : Addr) : PW0 := fun xs cs post exc => ∃ d, xs = [.dat d] ∧ cs = [] ∧ pl d = true ∧ (isRw d = true → post (.dat .non) []) ∧ (isRw d = false → exc C)
theorem ok_refuse_no_bytes (T : Txt K mg) : FnOk P w K mg base (L2.CX P w) 4 T.a_refuse_no_bytes T.d_refuse_no_bytes ["row"] (spG K (wRefBytes T.c_NoBytes)) := by
  refine T.F_refuse_no_bytes.okX sc_refuse_no_bytes (fun vs H Q E h => spG_len h fun xs cs post exc ⟨a, e, _⟩ => by rw [e]; rfl) (fun cdv A outer s H vs Q E hr h => ⟨_, (pss_one (ps_if (pt_not (pt_val (pe_call (ok_is_bytes T) (hr.mono (by decide)) (by rfl) T.g_is_bytes T.F_is_bytes.kp T.b_is_bytes .nil pass0 (pa_cons (pv 0) pa_nil)))) (pss_one (ps_raise rfl (takes_of rfl rfl rfl rfl) (pmk_own PySem.F.excBase_ValueError T.x_NoBytes T.g_NoBytes T.k_NoBytes (raises_own T.bb_NoBytes T.t_NoBytes) rfl))) pss_nil)), enter h fun F xs cs post hE hw => ?_⟩)
  subst hE
  obtain ⟨d, rfl, rfl, hp, q, qx⟩ := hw
  walk_at "D"
  walk_at "c"
  refine ⟨d, rfl, rfl, hp, rfl, ?_⟩
  cases hd : isRw d with
  | false =>
    walk_at "D"
    exact ws_exc fun as σ H G D en => F.hE _ H (qx hd) en.fh
  | true =>
    walk_at "D"
    exact ⟨rfl, q hd⟩
def lnR : D → Int
  | .lst ds => (ds.length : Int)
  | _ => 0
def wRefPlace (C1 C2 : Addr) : PW0 := fun xs cs post exc => ∃ d e, xs = [.dat d, .dat e] ∧ cs = [] ∧ pl d = true ∧ pl e = true ∧ (isRw d = false → exc C1) ∧ (isRw d = true → inR 0 (lnR d) e = false → exc C2) ∧ (isRw d = true → inR 0 (lnR d) e = true → post (.dat .non) [])
theorem ok_refuse_no_place (T : Txt K mg) : FnOk P w K mg base (L2.CX P w) 5 T.a_refuse_no_place T.d_refuse_no_place ["row", "at"] (spG K (wRefPlace T.c_NoBytes T.c_NoPlace)) := by
  refine T.F_refuse_no_place.okX sc_refuse_no_place (fun vs H Q E h => spG_len h fun xs cs post exc ⟨a, b, e, _⟩ => by rw [e]; rfl) (fun cdv A outer s H vs Q E hr h => ⟨_, (pss_cons (ps_expr (pe_call (ok_refuse_no_bytes T) (hr.mono (by decide)) (by rfl) T.g_refuse_no_bytes T.F_refuse_no_bytes.kp T.b_refuse_no_bytes .nil (passes_call (takes_of rfl rfl rfl rfl) (fun _ _ _ _ h => h)) (pa_cons (pv 0) pa_nil)))
      (pss_one (ps_if (pt_not (pt_val (pe_call (ok_is_whole T) (hr.mono (by decide)) (by rfl) T.g_is_whole T.F_is_whole.kp T.b_is_whole .nil pass0 (pa_cons (pv 1) (pa_cons pe_int (pa_cons (pe_callB call_len_seq (by rfl) T.m_len (by decide +kernel) (pa_cons (pv 0) pa_nil)) pa_nil)))))) (pss_one (ps_raise rfl (takes_of rfl rfl rfl rfl) (pmk_own PySem.F.excBase_ValueError T.x_NoPlace T.g_NoPlace T.k_NoPlace (raises_own T.bb_NoPlace T.t_NoPlace) rfl))) pss_nil))), enter h fun F xs cs post hE hw => ?_⟩)
  subst hE
  obtain ⟨d, e, rfl, rfl, hp, he, qx, qy, q⟩ := hw
  walk_at "D"
  walk_at "cx"
  refine ⟨d, rfl, rfl, hp, fun hd => ?_, qx⟩
  cases d with
  | lst ds =>
    refine ⟨rfl, ?_⟩
    walk_at "D"
    walk_at "c"
    refine ⟨e, 0, (ds.length : Int), rfl, rfl, he, rfl, ?_⟩
    cases hi : inR 0 (ds.length : Int) e with
    | false =>
      walk_at "D"
      exact ws_exc fun as σ H G D en => F.hE _ H (qy hd hi) en.fh
    | true =>
      walk_at "D"
      exact ⟨rfl, q hd hi⟩
  | _ => cases hd
/-! a number's figures -/
def tlN (n : Nat) : List Int := if h : n = 0 then [] else ((128 + n % 128 : Nat) : Int) :: tlN (n / 128)
termination_by n
decreasing_by omega
theorem tlN_0 : tlN 0 = [] := by rw [tlN]; rfl
theorem tlN_s {n : Nat} (h : n ≠ 0) : tlN n = ((128 + n % 128 : Nat) : Int) :: tlN (n / 128) := by rw [tlN, dif_neg h]
def figN (n : Nat) : List Int := (tlN (n / 128)).reverse ++ [((n % 128 : Nat) : Int)]
theorem tlN_len (b n : Nat) (h : n < 128 ^ b) : (tlN n).length ≤ b := by
  induction b generalizing n with
  | zero =>
    have : n = 0 := by simpa using h
    subst this
    rw [tlN_0]; exact Nat.le_refl _
  | succ b ih =>
    by_cases z : n = 0
    · subst z; rw [tlN_0]; exact Nat.zero_le _
    · rw [tlN_s z]
      have := ih (n / 128) (by rw [Nat.pow_succ] at h; omega)
      rw [List.length_cons]; omega
def wWritten (C : Addr) : PW0 := fun xs cs post exc => ∃ d, xs = [.dat d] ∧ cs = [] ∧ pl d = true ∧ (∀ n : Nat, d = .int n → (n : Int) ≤ 10 ^ 60 → post (.new ((figN n).map D.int)) []) ∧ (inR 0 (10 ^ 60) d = false → exc C)
theorem ok_written (T : Txt K mg) : FnOk P w K mg base (L2.CX P w) 3 T.a_written T.d_written ["number"] (spG K (wWritten T.c_NoNumber)) := by
  refine T.F_written.okX sc_written (fun vs H Q E h => spG_len h fun xs cs post exc ⟨a, e, _⟩ => by rw [e]; rfl) (fun cdv A outer s H vs Q E hr h => ⟨_, (pss_cons (ps_if (pt_not (pt_val (pe_call (ok_is_whole T) (hr.mono (by decide)) (by rfl) T.g_is_whole T.F_is_whole.kp T.b_is_whole .nil pass0 (pa_cons (pv 0) (pa_cons pe_int (pa_cons (pe_glob (v := .int 1000000000000000000000000000000000000000000000000000000000000) (by rfl) T.g_GREATEST_NUMBER ⟨_, rfl⟩) pa_nil)))))) (pss_one (ps_raise rfl (takes_of rfl rfl rfl rfl) (pmk_own PySem.F.excBase_ValueError T.x_NoNumber T.g_NoNumber T.k_NoNumber (raises_own T.bb_NoNumber T.t_NoNumber) rfl))) pss_nil)
      (pss_cons (ps_set (i := 1) sc_written.nd rfl (Or.inl rfl) (pe_lst (pa_cons (pe_op op_mod (pv 0) (pe_glob (v := .int 128) (by rfl) T.g_BASE ⟨_, rfl⟩)) pa_nil)))
      (pss_cons (ps_set (i := 2) sc_written.nd rfl (Or.inl rfl) (pe_op op_fdiv (pv 0) (pe_glob (v := .int 128) (by rfl) T.g_BASE ⟨_, rfl⟩)))
      (pss_cons (ps_while (passes_of rfl) (pt_cmpR op_gt (pv 2) pe_int (nomark _)) (pss_cons (ps_expr (pe_bm PySem.F.plainAttrs_list PySem.F.slot_list_append PySem.F.type_list_append mt_append (pv 1) (pa_cons (pe_op op_add (pe_glob (v := .int 128) (by rfl) T.g_BASE ⟨_, rfl⟩) (pe_op op_mod (pv 2) (pe_glob (v := .int 128) (by rfl) T.g_BASE ⟨_, rfl⟩))) pa_nil)))
      (pss_one (ps_set (i := 2) sc_written.nd rfl (Or.inl rfl) (pe_op op_fdiv (pv 2) (pe_glob (v := .int 128) (by rfl) T.g_BASE ⟨_, rfl⟩))))))
      (pss_one (ps_ret (pe_revL (pv 1)))))))), enter h fun F xs cs post hE hw => ?_⟩)
  subst hE
  obtain ⟨d, rfl, rfl, hp, q, qx⟩ := hw
  walk_at "D"
  walk_at "c"
  refine ⟨d, 0, _, rfl, rfl, hp, rfl, ?_⟩
  cases hd : inR 0 1000000000000000000000000000000000000000000000000000000000000 d with
  | false =>
    walk_at "D"
    exact ws_exc fun as σ H G D en => F.hE _ H (qx hd) en.fh
  | true =>
    obtain ⟨i, rfl, i0, i1⟩ := inR_of hd
    obtain ⟨n, rfl⟩ : ∃ n : Nat, i = n := ⟨i.toNat, by omega⟩
    have q := q n rfl i1
    have ln : (tlN (n / 128)).length ≤ 30 := tlN_len 30 _ (by
      have : n < 10 ^ 60 + 1 := by omega
      have : (10 : Nat) ^ 60 + 1 < 128 ^ 30 := by decide
      omega)
    walk_at "D"
    refine wr_Ii (by decide) ?_
    walk_at "D"
    refine wr_Ii ⟨by decide, by decide⟩ ?_
    walk_at "D"
    have e1 : ((n : Int) % 128) = ((n % 128 : Nat) : Int) := by omega
    have e2 : ((n : Int) / 128) = ((n / 128 : Nat) : Int) := by omega
    rw [e1, e2]
    refine ws_while (fun m ρ => ∃ (ds : List Int), ρ = ⟨[some (.dat (.int n)), some (.cel 0), some (.dat (.int (m : Int)))], [.lst (ds.map D.int)]⟩ ∧ ds ++ tlN m = ((n % 128 : Nat) : Int) :: tlN (n / 128)) (n / 128) ⟨[((n % 128 : Nat) : Int)], rfl, rfl⟩ ?_
    rintro m ρ ⟨ds, rfl, hds⟩
    walk_at "D"
    refine ifC (fun c => ?_) (fun c => ?_)
    · have c := of_decide_eq_true c
      have m0 : m ≠ 0 := by omega
      rw [tlN_s m0] at hds
      have hl : ds.length ≤ 31 := by
        have := congrArg List.length hds
        rw [List.length_append, List.length_cons, List.length_cons] at this
        omega
      walk_at "D"
      refine wr_Ii (by decide) ?_
      walk_at "D"
      · rw [List.length_map]; omega
      walk_at "D"
      refine wr_Ii ⟨by decide, by decide⟩ ?_
      walk_at "D"
      refine ⟨m / 128, by omega, ds ++ [((128 + m % 128 : Nat) : Int)], ?_, ?_⟩
      · rw [List.map_append, List.map_cons, List.map_nil, show ((128 : Int) + (m : Int) % 128) = ((128 + m % 128 : Nat) : Int) by omega, show ((m : Int) / 128) = ((m / 128 : Nat) : Int) by omega]
        rfl
      · rw [List.append_assoc]
        exact hds
    · have c := of_decide_eq_false c
      have m0 : m = 0 := by omega
      subst m0
      rw [tlN_0, List.append_nil] at hds
      subst hds
      walk_at "D"
      refine we_revL ?_
      walk_at "D"
      rw [← List.map_reverse, List.reverse_cons]
      exact ⟨_, .cel (Nat.zero_le _) rfl, rfl, q⟩
end

section
variable {P : Program} {w : World} {K : PySem.W.Frag} {mg : Str → Option Value} {base : Heap}
/-! ### numbers read out of a row -/
def goN : List Int → Int → Int → Option (Int × Int)
  | [], _, _ => none
  | f :: fs, a, p => if a * 128 + f % 128 > 1000000000000000000000000000000000000000000000000000000000000 then none else if f < 128 then some (a * 128 + f % 128, p + 1) else goN fs (a * 128 + f % 128) (p + 1)
def numA : List Int → Int → Option (Int × Int)
  | [], _ => none
  | f :: r, p => if f = 128 then none else goN (f :: r) 0 p
def resD : Option (Int × Int) → D
  | none => .non
  | some (a, p) => .tup [.int a, .int p]
def Byts (ns : List Int) : Prop := ∀ b ∈ ns, 0 ≤ b ∧ b ≤ 255
theorem rw_of {d : D} (h : isRw d = true) : ∃ ns : List Int, d = .lst (ns.map D.int) ∧ Byts ns := by
  cases d with
  | lst ds =>
    have h : ds.all (inR 0 255) = true := h
    have main : ∀ ds : List D, ds.all (inR 0 255) = true → ∃ ns : List Int, ds = ns.map D.int ∧ Byts ns := by
      intro ds
      induction ds with
      | nil => intro _; exact ⟨[], rfl, fun _ m => nomatch m⟩
      | cons d ds ih =>
        intro h
        rw [List.all_cons, Bool.and_eq_true] at h
        obtain ⟨i, rfl, i0, i1⟩ := inR_of h.1
        obtain ⟨ns, rfl, hb⟩ := ih h.2
        refine ⟨i :: ns, rfl, fun b m => ?_⟩
        rcases List.mem_cons.mp m with rfl | m
        · exact ⟨i0, i1⟩
        · exact hb b m
    obtain ⟨ns, rfl, hb⟩ := main ds h
    exact ⟨ns, rfl, hb⟩
  | _ => cases h
theorem rw_is {ns : List Int} (h : Byts ns) : isRw (.lst (ns.map D.int)) = true := by
  show (ns.map D.int).all (inR 0 255) = true
  rw [List.all_eq_true]
  intro d m
  obtain ⟨b, hb, rfl⟩ := List.mem_map.mp m
  exact inR_int (h b hb).1 (h b hb).2
theorem pls_int (ns : List Int) : pls (ns.map D.int) = true := by
  induction ns with
  | nil => rfl
  | cons x ns ih => exact ih
theorem hards_int (ns : List Int) : hards (ns.map D.int) = true := by
  induction ns with
  | nil => rfl
  | cons x ns ih => exact ih
theorem drop_at {ns : List Int} {j : Nat} (h : j < ns.length) : ns.drop j = ns[j] :: ns.drop (j + 1) := List.drop_eq_getElem_cons h
theorem at_int {ns : List Int} {j : Nat} {i : Int} (h : j < ns.length) (e : i = (j : Int)) : atI (ns.map D.int) i = some (D.int ns[j]) := by
  subst e
  exact atI_nat (by rw [List.getElem?_map, List.getElem?_eq_getElem h]; rfl)
def wNumAt : PW0 := fun xs cs post _ => ∃ (ns : List Int) (j : Nat), xs = [.dat (.lst (ns.map D.int)), .dat (.int j)] ∧ cs = [] ∧ Byts ns ∧ j ≤ ns.length ∧ ns.length ≤ 100000 ∧ post (.dat (resD (numA (ns.drop j) j))) []
theorem ok_number_at (T : Txt K mg) : FnOk P w K mg base CX0 1 T.a_number_at T.d_number_at ["row", "at"] (spG K wNumAt) := by
  refine T.F_number_at.ok sc_number_at (fun vs H Q E h => spG_len h fun xs cs post exc ⟨a, b, e, _⟩ => by rw [e]; rfl) (fun cdv A outer s H vs Q E hr h => ⟨_, (pss_cons (ps_set (i := 2) sc_number_at.nd rfl (Or.inl rfl) pe_int)
      (pss_cons (ps_for PassesOwn.never rfl (pi_range2 (by rfl) T.m_range (pa_cons (pv 1) (pa_cons (pe_callB call_len_seq (by rfl) T.m_len (by decide +kernel) (pa_cons (pv 0) pa_nil)) pa_nil))) (pg_name (i := 3) sc_number_at.nd rfl (Or.inl rfl))
        (pss_cons (ps_set (i := 4) sc_number_at.nd rfl (Or.inl rfl) (pe_ix ix_list (pv 0) (pv 3) (fun _ _ => rfl)))
      (pss_cons (ps_if (PW.pt (pw_and (pt_cmpR op_eq (pv 3) (pv 1) (nomark _)) (pw_and1 (pt_cmpR op_eq (pv 4) (pe_glob (v := .int 128) (by rfl) T.g_BASE ⟨_, rfl⟩) (nomark _))))) (pss_one (ps_ret pe_non)) pss_nil)
      (pss_cons (ps_set (i := 2) sc_number_at.nd rfl (Or.inl rfl) (pe_op op_add (pe_op op_mul (pv 2) (pe_glob (v := .int 128) (by rfl) T.g_BASE ⟨_, rfl⟩)) (pe_op op_mod (pv 4) (pe_glob (v := .int 128) (by rfl) T.g_BASE ⟨_, rfl⟩))))
      (pss_cons (ps_if (pt_cmpR op_gt (pv 2) (pe_glob (v := .int 1000000000000000000000000000000000000000000000000000000000000) (by rfl) T.g_GREATEST_NUMBER ⟨_, rfl⟩) (nomark _)) (pss_one (ps_ret pe_non)) pss_nil)
      (pss_one (ps_if (pt_cmpR op_lt (pv 4) (pe_glob (v := .int 128) (by rfl) T.g_BASE ⟨_, rfl⟩) (nomark _)) (pss_one (ps_ret (pe_tup (pa_cons (pv 2) (pa_cons (pe_op op_add (pv 3) pe_int) pa_nil))))) pss_nil)))))))
      (pss_one (ps_ret pe_non)))), enter h fun F xs cs post hE hw => ?_⟩)
  obtain ⟨ns, j, rfl, rfl, hb, hj, hl0, q⟩ := hw
  walk_at "D"
  rw [List.length_map]
  have hn : ((ns.length : Int) - (j : Int)).toNat = ns.length - j := by omega
  rw [hn]
  refine ⟨⟨by omega, by omega, by omega, by omega⟩, ?_⟩
  refine loop_rng (fun i ρ => ∃ (a : Int) (x y : Option AV), ρ = ⟨[some (.dat (.lst (ns.map D.int))), some (.dat (.int j)), some (.dat (.int a)), x, y], []⟩ ∧ (i = 0 → a = 0 ∧ post (.dat (resD (numA (ns.drop j) j))) []) ∧ (0 < i → post (.dat (resD (goN (ns.drop (j + i)) a ((j + i : Nat) : Int)))) [])) ⟨0, _, _, rfl, fun _ => ⟨rfl, q⟩, fun z => absurd z (Nat.lt_irrefl 0)⟩ ?_ ?_
  · rintro ρ ⟨a, x, y, rfl, h0, h1⟩
    refine ⟨trivial, ?_⟩
    walk_at "D"
    by_cases z : ns.length - j = 0
    · obtain ⟨_, q⟩ := h0 z
      rw [List.drop_of_length_le (by omega)] at q
      exact fin_dat rfl q
    · have q := h1 (by omega)
      rw [List.drop_of_length_le (by omega)] at q
      exact fin_dat rfl q
  · rintro i ρ hi ⟨a, x, y, rfl, h0, h1⟩
    refine ⟨trivial, ?_⟩
    have hl : j + i < ns.length := by omega
    walk_at "D"
    refine wr_ixL (.dat _) (at_int hl (by omega)) ?_
    refine wg_name ?_
    refine ws_seq ?_
    have hd := drop_at (ns := ns) (j := j + i) hl
    generalize hf : ns[j + i] = f at *
    have fb : 0 ≤ f ∧ f ≤ 255 := hb f (by rw [← hf]; exact List.getElem_mem hl)
    refine ws_if ?_
    by_cases z : i = 0 ∧ f = 128
    · obtain ⟨rfl, rfl⟩ := z
      obtain ⟨rfl, q⟩ := h0 rfl
      have hd : ns.drop j = 128 :: ns.drop (j + 0 + 1) := hd
      rw [hd, numA, if_pos rfl] at q
      walk_at "D"
      refine ifT (decide_eq_true (show (j : Int) + ((0 : Nat) : Int) = j by omega)) ?_
      walk_at "D"
      exact fin_dat rfl q
    · have q2 : post (.dat (resD (goN (f :: ns.drop (j + i + 1)) a ((j : Int) + i)))) [] := by
        by_cases i0 : i = 0
        · subst i0
          obtain ⟨rfl, q⟩ := h0 rfl
          have hd : ns.drop j = f :: ns.drop (j + 0 + 1) := hd
          rw [hd, numA, if_neg fun y => z ⟨rfl, y⟩] at q
          rw [show (j : Int) + ((0 : Nat) : Int) = j by omega]
          exact q
        · have q := h1 (by omega)
          rw [hd, show ((j + i : Nat) : Int) = (j : Int) + i by omega] at q
          exact q
      rw [goN] at q2
      refine WpT.imp (kb := fun b ρ1 => b = false ∧ ρ1 = ⟨[some (.dat (.lst (ns.map D.int))), some (.dat (.int j)), some (.dat (.int a)), some (.dat (.int ((j : Int) + i))), some (.dat (.int f))], []⟩) ?_ ?_
      · walk_at "D"
        by_cases i0 : i = 0
        · refine ifT (decide_eq_true (by omega)) ?_
          walk_at "D"
          exact ⟨decide_eq_false fun y => z ⟨i0, y⟩, rfl⟩
        · refine ifF (decide_eq_false (by omega)) ?_
          exact ⟨rfl, rfl⟩
      · rintro b ρ1 ⟨rfl, rfl⟩
        walk_at "D"
        refine wr_Ii (.inr (by decide)) ?_
        walk_at "D"
        refine wr_Ii (by decide) ?_
        walk_at "D"
        refine ifC (fun c => ?_) (fun c => ?_)
        · rw [if_pos (of_decide_eq_true c)] at q2
          walk_at "D"
          exact fin_dat rfl q2
        · rw [if_neg (of_decide_eq_false c)] at q2
          walk_at "D"
          refine ifC (fun c => ?_) (fun c => ?_)
          · rw [if_pos (of_decide_eq_true c)] at q2
            walk_at "D"
            exact fin_dat rfl q2
          · rw [if_neg (of_decide_eq_false c)] at q2
            walk_at "D"
            refine now ⟨_, _, _, rfl, fun y => absurd y (Nat.succ_ne_zero i), fun _ => ?_⟩
            rw [show ((j + (i + 1) : Nat) : Int) = (j : Int) + i + 1 by omega]
            exact q2
def wRead (C1 C2 C3 : Addr) : PW0 := fun xs cs post exc => ∃ d e, xs = [.dat d, .dat e] ∧ cs = [] ∧ pl d = true ∧ pl e = true ∧ lnR d ≤ 100000 ∧ (isRw d = false → exc C1) ∧ (isRw d = true → inR 0 (lnR d) e = false → exc C2) ∧
  (∀ (ns : List Int) (j : Nat), d = .lst (ns.map D.int) → e = .int j → Byts ns → j ≤ ns.length → (numA (ns.drop j) j = none → exc C3) ∧ (∀ a p, numA (ns.drop j) j = some (a, p) → post (.dat (.tup [.int a, .int p])) []))
theorem ok_read_number (T : Txt K mg) : FnOk P w K mg base (L2.CX P w) 6 T.a_read_number T.d_read_number ["row", "at"] (spG K (wRead T.c_NoBytes T.c_NoPlace T.c_NoNumber)) := by
  refine T.F_read_number.ok (CX := L2.CX P w) sc_read_number (fun vs H Q E h => spG_len h fun xs cs post exc ⟨a, b, e, _⟩ => by rw [e]; rfl) (fun cdv A outer s H vs Q E hr h => ⟨_, (pss_cons (ps_expr (pe_call (ok_refuse_no_place T) (hr.mono (by decide)) (by rfl) T.g_refuse_no_place T.F_refuse_no_place.kp T.b_refuse_no_place .nil (passes_call (takes_of rfl rfl rfl rfl) (fun _ _ _ _ h => h)) (pa_cons (pv 0) (pa_cons (pv 1) pa_nil))))
      (pss_cons (ps_set (i := 2) sc_read_number.nd rfl (Or.inl rfl) (pe_call (ok_number_at T) (hr.mono (by decide)) (by rfl) T.g_number_at T.F_number_at.kp T.b_number_at .nil pass0 (pa_cons (pv 0) (pa_cons (pv 1) pa_nil))))
      (pss_cons (ps_if (pt_cmpR op_isN (pv 2) pe_non (nomark _)) (pss_one (ps_raise rfl (takes_of rfl rfl rfl rfl) (pmk_own PySem.F.excBase_ValueError T.x_NoNumber T.g_NoNumber T.k_NoNumber (raises_own T.bb_NoNumber T.t_NoNumber) rfl))) pss_nil)
      (pss_one (ps_ret (pv 2)))))), enter h fun F xs cs post hE hw => ?_⟩)
  subst hE
  obtain ⟨d, e, rfl, rfl, hp, he, hln, qx, qy, q⟩ := hw
  walk_at "D"
  walk_at "cx"
  refine ⟨d, e, rfl, rfl, hp, he, qx, qy, fun hd hi => ?_⟩
  obtain ⟨ns, rfl, hb⟩ := rw_of hd
  obtain ⟨i, rfl, i0, i1⟩ := inR_of hi
  obtain ⟨j, rfl⟩ : ∃ j : Nat, i = j := ⟨i.toNat, by omega⟩
  have lnE : lnR (.lst (ns.map D.int)) = (ns.length : Int) := by show ((ns.map D.int).length : Int) = _; rw [List.length_map]
  have hj : j ≤ ns.length := by omega
  obtain ⟨q1, q2⟩ := q ns j rfl rfl hb hj
  refine ⟨rfl, ?_⟩
  walk_at "D"
  walk_at "c"
  refine ⟨ns, j, rfl, rfl, hb, hj, by omega, rfl, ?_⟩
  cases hr : numA (ns.drop j) j with
  | none =>
    walk_at "D"
    exact ws_exc fun as σ H G D en => F.hE _ H (q1 hr) en.fh
  | some ap =>
    obtain ⟨a, p⟩ := ap
    dsimp only [resD]
    walk_at "D"
    exact fin_dat rfl (q2 a p hr)
/-! its figures tell a number -/
theorem goN_tl (m : Nat) (hm : (m : Int) ≤ 1000000000000000000000000000000000000000000000000000000000000) (r : List Int) (p : Int) : goN ((tlN m).reverse ++ r) 0 p = goN r m (p + (tlN m).length) := by
  induction m using Nat.strongRecOn generalizing r p with
  | _ m ih =>
    by_cases z : m = 0
    · subst z
      rw [tlN_0]
      show goN r 0 p = goN r ((0 : Nat) : Int) (p + ((0 : Nat) : Int))
      rw [show p + ((0 : Nat) : Int) = p by omega]
      rfl
    · rw [tlN_s z, List.reverse_cons, List.append_assoc, ih (m / 128) (by omega) (by omega)]
      show goN (((128 + m % 128 : Nat) : Int) :: r) _ _ = _
      rw [goN]
      have e : ((m / 128 : Nat) : Int) * 128 + ((128 + m % 128 : Nat) : Int) % 128 = (m : Int) := by omega
      rw [e, if_neg (by omega), if_neg (by omega), List.length_cons]
      congr 1
      omega
theorem tl_head (m : Nat) (hm : m ≠ 0) : ∃ x l, (tlN m).reverse = x :: l ∧ 128 < x := by
  induction m using Nat.strongRecOn with
  | _ m ih =>
    rw [tlN_s hm, List.reverse_cons]
    by_cases z : m / 128 = 0
    · rw [z, tlN_0]
      exact ⟨_, [], rfl, by omega⟩
    · obtain ⟨x, l, e, h⟩ := ih (m / 128) (by omega) z
      rw [e]
      exact ⟨x, _, rfl, h⟩
theorem fig_len (n : Nat) : (figN n).length = (tlN (n / 128)).length + 1 := by
  unfold figN
  rw [List.length_append, List.length_reverse]
  rfl
theorem numA_fig (n : Nat) (hn : (n : Int) ≤ 1000000000000000000000000000000000000000000000000000000000000) : numA (figN n) 0 = some ((n : Int), ((figN n).length : Int)) := by
  have main : goN (figN n) 0 0 = some ((n : Int), ((figN n).length : Int)) := by
    rw [fig_len]
    unfold figN
    rw [goN_tl _ (by omega), goN]
    have e : ((n / 128 : Nat) : Int) * 128 + ((n % 128 : Nat) : Int) % 128 = (n : Int) := by omega
    rw [e, if_neg (by omega), if_pos (by omega)]
    congr 2
    omega
  have hd : ∃ x l, figN n = x :: l ∧ x ≠ 128 := by
    unfold figN
    by_cases z : n / 128 = 0
    · rw [z, tlN_0]
      exact ⟨_, [], rfl, by omega⟩
    · obtain ⟨x, l, e, h⟩ := tl_head _ z
      rw [e]
      exact ⟨x, _, rfl, by omega⟩
  obtain ⟨x, l, e, h⟩ := hd
  rw [e] at main ⊢
  rw [numA, if_neg h]
  exact main
theorem fig_byts (n : Nat) : Byts (figN n) := by
  have tl : ∀ m : Nat, Byts (tlN m) := by
    intro m
    induction m using Nat.strongRecOn with
    | _ m ih =>
      by_cases z : m = 0
      · subst z; rw [tlN_0]; exact fun _ q => nomatch q
      · rw [tlN_s z]
        intro b mb
        rcases List.mem_cons.mp mb with rfl | mb
        · omega
        · exact ih (m / 128) (by omega) b mb
  intro b mb
  unfold figN at mb
  rcases List.mem_append.mp mb with mb | mb
  · exact tl _ b (List.mem_reverse.mp mb)
  · rw [List.mem_singleton] at mb
    omega
end

section
variable {P : Program} {w : World} {K : PySem.W.Frag} {mg : Str → Option Value} {base : Heap}
/-! ### the law's own figures and readings -/
theorem fig_short (n : Nat) (h : (n : Int) ≤ 10 ^ 60) : (figN n).length ≤ 31 := by
  rw [fig_len]
  have : (tlN (n / 128)).length ≤ 30 := tlN_len 30 _ (by
    have : n < 10 ^ 60 + 1 := by omega
    have : (10 : Nat) ^ 60 + 1 < 128 ^ 30 := by decide
    omega)
  omega
def wFig : PW0 := fun xs cs post _ => ∃ n : Nat, xs = [.dat (.int n)] ∧ cs = [] ∧ (n : Int) ≤ 10 ^ 60 ∧ post (.new ((figN n).map D.int)) []
theorem ok_l_figures (T : Txt K mg) : FnOk P w K mg base CX0 1 T.a_l_figures T.d_l_figures ["_law_number_here"] (spG K wFig) := by
  refine T.F_l_figures.ok sc_l_figures (fun vs H Q E h => spG_len h fun xs cs post exc ⟨a, e, _⟩ => by rw [e]; rfl) (fun cdv A outer s H vs Q E hr h => ⟨_, (pss_cons (ps_set (i := 1) sc_l_figures.nd rfl (Or.inl rfl) (pe_lst (pa_cons (pe_op op_mod (pv 0) pe_int) pa_nil)))
      (pss_cons (ps_while PassesOwn.never (pt_cmpR op_ge (pv 0) pe_int (nomark _)) (pss_cons (ps_set (i := 0) sc_l_figures.nd rfl (Or.inl rfl) (pe_op op_fdiv (pv 0) pe_int))
      (pss_one (ps_set (i := 1) sc_l_figures.nd rfl (Or.inl rfl) (pe_op op_catF (pe_lst (pa_cons (pe_op op_add pe_int (pe_op op_mod (pv 0) pe_int)) pa_nil)) (pv 1))))))
      (pss_one (ps_ret (pv 1))))), enter h fun F xs cs post hE hw => ?_⟩)
  obtain ⟨n, rfl, rfl, hn, q⟩ := hw
  have hs := fig_short n hn
  walk_at "D"
  refine wr_Ii (by decide) ?_
  walk_at "D"
  rw [show ((n : Int) % 128) = ((n % 128 : Nat) : Int) by omega]
  refine ws_while (fun m ρ => ∃ (ds : List Int) (cs : List Cell) (j : Nat), ρ = ⟨[some (.dat (.int (m : Int))), some (.cel j)], cs⟩ ∧ cs[j]? = some (.lst (ds.map D.int)) ∧ (tlN (m / 128)).reverse ++ ds = figN n) n ⟨[((n % 128 : Nat) : Int)], _, 0, rfl, rfl, rfl⟩ ?_
  rintro m ρ ⟨ds, cs, j, rfl, hc, hd⟩
  walk_at "D"
  refine ifC (fun c => ?_) (fun c => ?_)
  · have c := of_decide_eq_true c
    have m0 : m / 128 ≠ 0 := by omega
    rw [tlN_s m0, List.reverse_cons, List.append_assoc] at hd
    have hl : ds.length ≤ 31 := by
      have := congrArg List.length hd
      rw [List.length_append, List.length_append] at this
      omega
    walk_at "D"
    refine wr_Ii ⟨by decide, by decide⟩ ?_
    walk_at "D"
    refine wr_Ii (by decide) ?_
    walk_at "D"
    walk_at "nrm"
    have hj : j < cs.length := (List.getElem?_eq_some_iff.mp hc).1
    refine wr_cat (ds := [.int (128 + (m : Int) / 128 % 128)]) (es := ds.map D.int) (.cel (by simp)) (.cel (by rw [List.getElem?_append_left hj]; exact hc)) (by rw [List.length_map]; simp only [List.length]; omega) ?_
    walk_at "D"
    have e1 : ((m : Int) / 128) = ((m / 128 : Nat) : Int) := by omega
    have e2 : (128 + ((m / 128 : Nat) : Int) % 128) = ((128 + m / 128 % 128 : Nat) : Int) := by omega
    rw [e1, e2]
    refine ⟨m / 128, by omega, ((128 + m / 128 % 128 : Nat) : Int) :: ds, (cs ++ [Cell.lst [.int ((128 + m / 128 % 128 : Nat) : Int)]]) ++ [Cell.lst (.int ((128 + m / 128 % 128 : Nat) : Int) :: ds.map D.int)], (cs ++ [Cell.lst [.int ((128 + m / 128 % 128 : Nat) : Int)]]).length, rfl, ?_, hd⟩
    rw [List.getElem?_concat_length]
    rfl
  · have c := of_decide_eq_false c
    rw [show m / 128 = 0 by omega, tlN_0] at hd
    have hd : ds = figN n := hd
    subst hd
    walk_at "D"
    exact ⟨_, .cel (Nat.zero_le _) hc, rfl, q⟩
theorem ok_l_number_at (T : Txt K mg) : FnOk P w K mg base CX0 1 T.a_l_number_at T.d_l_number_at ["_law_row", "_law_at"] (spG K wNumAt) := by
  refine T.F_l_number_at.ok sc_l_number_at (fun vs H Q E h => spG_len h fun xs cs post exc ⟨a, b, e, _⟩ => by rw [e]; rfl) (fun cdv A outer s H vs Q E hr h => ⟨_, (pss_cons (ps_if (PW.pt (pw_or (pt_cmpR op_ge (pv 1) (pe_callB call_len_seq (by rfl) T.m_len (by decide +kernel) (pa_cons (pv 0) pa_nil)) (nomark _)) (pw_or1 (pt_cmpR op_eq (pe_ix ix_list (pv 0) (pv 1) (fun _ _ => rfl)) pe_int (nomark _))))) (pss_one (ps_ret pe_non)) pss_nil)
      (pss_cons (ps_set (i := 2) sc_l_number_at.nd rfl (Or.inl rfl) pe_int)
      (pss_cons (ps_for PassesOwn.never rfl (pi_range2 (by rfl) T.m_range (pa_cons (pv 1) (pa_cons (pe_callB call_len_seq (by rfl) T.m_len (by decide +kernel) (pa_cons (pv 0) pa_nil)) pa_nil))) (pg_name (i := 3) sc_l_number_at.nd rfl (Or.inl rfl))
        (pss_cons (ps_set (i := 2) sc_l_number_at.nd rfl (Or.inl rfl) (pe_op op_add (pe_op op_mul (pv 2) pe_int) (pe_op op_mod (pe_ix ix_list (pv 0) (pv 3) (fun _ _ => rfl)) pe_int)))
      (pss_cons (ps_if (pt_cmpR op_gt (pv 2) (pe_op op_pow pe_int pe_int) (nomark _)) (pss_one (ps_ret pe_non)) pss_nil)
      (pss_one (ps_if (pt_cmpR op_lt (pe_ix ix_list (pv 0) (pv 3) (fun _ _ => rfl)) pe_int (nomark _)) (pss_one (ps_ret (pe_tup (pa_cons (pv 2) (pa_cons (pe_op op_add (pv 3) pe_int) pa_nil))))) pss_nil)))))
      (pss_one (ps_ret pe_non))))), enter h fun F xs cs post hE hw => ?_⟩)
  obtain ⟨ns, j, rfl, rfl, hb, hj, hl0, q⟩ := hw
  refine ws_seq ?_
  refine ws_if ?_
  by_cases hl : ns.length ≤ j
  · rw [List.drop_of_length_le hl] at q
    walk_at "D"
    refine ifT (decide_eq_true (by rw [List.length_map]; omega)) ?_
    walk_at "D"
    exact fin_dat rfl q
  · have hd := drop_at (ns := ns) (j := j) (by omega)
    rw [hd, numA] at q
    by_cases z : ns[j] = 128
    · rw [if_pos z] at q
      walk_at "D"
      refine ifF (decide_eq_false (by rw [List.length_map]; omega)) ?_
      walk_at "D"
      refine wr_ixL (.dat _) (at_int (by omega) rfl) ?_
      walk_at "D"
      refine ifT (decide_eq_true z) ?_
      walk_at "D"
      exact fin_dat rfl q
    · rw [if_neg z, ← hd] at q
      walk_at "D"
      refine ifF (decide_eq_false (by rw [List.length_map]; omega)) ?_
      walk_at "D"
      refine wr_ixL (.dat _) (at_int (by omega) rfl) ?_
      walk_at "D"
      refine ifF (decide_eq_false z) ?_
      walk_at "D"
      rw [List.length_map, show ((ns.length : Int) - (j : Int)).toNat = ns.length - j by omega]
      refine ⟨⟨by omega, by omega, by omega, by omega⟩, ?_⟩
      refine loop_rng (fun i ρ => ∃ (a : Int) (x : Option AV), ρ = ⟨[some (.dat (.lst (ns.map D.int))), some (.dat (.int j)), some (.dat (.int a)), x], []⟩ ∧ post (.dat (resD (goN (ns.drop (j + i)) a ((j + i : Nat) : Int)))) []) ⟨0, _, rfl, q⟩ ?_ ?_
      · rintro ρ ⟨a, x, rfl, q⟩
        refine ⟨trivial, ?_⟩
        rw [List.drop_of_length_le (by omega)] at q
        walk_at "D"
        exact fin_dat rfl q
      · rintro i ρ hi ⟨a, x, rfl, q⟩
        refine ⟨trivial, ?_⟩
        have hl2 : j + i < ns.length := by omega
        have hd2 := drop_at (ns := ns) (j := j + i) hl2
        have e1 : ∀ {kk : AV → En → Prop} {ρ2 : En}, kk (.dat (.int ns[j + i])) ρ2 → WpR K F (rIxL K) (.dat (.lst (ns.map D.int))) (.dat (.int ((j : Int) + i))) ρ2 kk := fun h => wr_ixL (.dat _) (at_int hl2 (by omega)) h
        generalize ns[j + i] = f at *
        rw [hd2, goN, show ((j + i : Nat) : Int) = (j : Int) + i by omega] at q
        walk_at "D"
        refine wr_Ii (.inr (by decide)) ?_
        walk_at "D"
        refine e1 ?_
        walk_at "D"
        refine wr_Ii (by decide) ?_
        walk_at "D"
        refine wr_Ii ⟨by decide, by decide, by decide⟩ ?_
        rw [show (10 : Int) ^ Int.toNat 60 = 1000000000000000000000000000000000000000000000000000000000000 by decide]
        walk_at "D"
        refine ifC (fun c => ?_) (fun c => ?_)
        · rw [if_pos (of_decide_eq_true c)] at q
          walk_at "D"
          exact fin_dat rfl q
        · rw [if_neg (of_decide_eq_false c)] at q
          walk_at "D"
          refine e1 ?_
          walk_at "D"
          refine ifC (fun c => ?_) (fun c => ?_)
          · rw [if_pos (of_decide_eq_true c)] at q
            walk_at "D"
            exact fin_dat rfl q
          · rw [if_neg (of_decide_eq_false c)] at q
            walk_at "D"
            refine now ⟨_, _, rfl, ?_⟩
            rw [show ((j + (i + 1) : Nat) : Int) = (j : Int) + i + 1 by omega]
            exact q
def wPlain : PW0 := fun xs cs post _ => ∃ ns : List Int, xs = [.dat (.lst (ns.map D.int))] ∧ cs = [] ∧ ns.length ≤ 100000 ∧ post (.dat (.bl true)) []
theorem ok_l_plain (T : Txt K mg) : FnOk P w K mg base CX0 1 T.a_l_plain T.d_l_plain ["_law_row"] (spG K wPlain) := by
  refine T.F_l_plain.ok sc_l_plain (fun vs H Q E h => spG_len h fun xs cs post exc ⟨a, e, _⟩ => by rw [e]; rfl) (fun cdv A outer s H vs Q E hr h => ⟨_, (pss_one (ps_ret (pe_and (pe_callB call_isi (by rfl) T.m_isinstance (by decide +kernel) (pa_cons (pv 0) (pa_cons (pe_bltn (v := .ty "list") (by rfl) T.m_list (by decide +kernel) rfl) pa_nil))) (pe_one (pe_callB (cr_all rfl) (by rfl) T.m_all (by decide +kernel) (pa_cons (pe_lc (own := [("_law_byte", 1)]) (g := gName 1) (tt := tYes) (by rfl) sc_l_plain.nd (pi_list (pv 0)) (blkOk_by (own := [("_law_byte", 1)]) (N := N_l_plain) (sc := defScope s_l_plain) (by decide +kernel)) (fun _ _ _ _ _ => (pg_name (i := 1) sc_l_plain.nd rfl (Or.inl rfl))) (fun _ _ _ _ _ => pts_nil) (fun _ _ _ _ _ => (pe_and (pe_callB (call_isiB (K := K) rfl) (by rfl) T.m_isinstance (by decide +kernel) (pa_cons (pv 1) (pa_cons (pe_bltn (v := .ty "int") (by rfl) T.m_int (by decide +kernel) rfl) pa_nil))) (pe_one (pe_not (pe_callB (call_isiB (K := K) rfl) (by rfl) T.m_isinstance (by decide +kernel) (pa_cons (pv 1) (pa_cons (pe_bltn (v := .ty "bool") (by rfl) T.m_bool (by decide +kernel) rfl) pa_nil)))))))) pa_nil)))))), enter h fun F xs cs post hE hw => ?_⟩)
  obtain ⟨ns, rfl, rfl, hl, q⟩ := hw
  walk_at "D"
  refine loopC_by (fun ds ρ => ∃ (ms : List Int) (n : Nat), ds = ms.map D.int ∧ ρ = ⟨[some (.dat (.lst (ns.map D.int))), none], [.lst ((List.replicate n true).map D.bl)]⟩ ∧ n + ms.length = ns.length) ⟨ns, 0, rfl, rfl, by omega⟩ ?_ ?_
  · rintro ρ ⟨ms, n, hm, rfl, hn⟩
    refine ⟨.dat _, ?_⟩
    walk_at "D"
    refine wc_all (bs := List.replicate n true) (.cel rfl) ?_
    rw [show (List.replicate n true).all id = true by rw [List.all_eq_true]; intro x m; exact (List.eq_of_mem_replicate m)]
    exact fin_dat rfl q
  · rintro d ds ρ ⟨ms, n, hm, rfl, hn⟩
    refine ⟨.dat _, ?_⟩
    cases ms with
    | nil => cases hm
    | cons m ms =>
      cases hm
      rw [List.length_cons] at hn
      walk_at "D"
      · rw [List.length_map, List.length_replicate]; omega
      refine now ⟨ms, n + 1, rfl, ?_, by omega⟩
      rw [List.replicate_succ', List.map_append]
      rfl
end

local macro_rules | `(tactic| walk_at "E") => `(tactic| repeat (first
  | (with_reducible refine ws_seq ?_; walk_at "nr2")
  | walk_at "d"
  | refine we_dnew ?_
  | refine ifT rfl ?_
  | refine ifF rfl ?_))
section
variable {P : Program} {w : World} {K : PySem.W.Frag} {mg : Str → Option Value} {base : Heap}
/-! ### drawn bytes, numbers, odd rows -/
def wBytes : PW0 := fun xs cs post _ => ∃ m : Nat, xs = [.cel 0, .dat (.int m)] ∧ cs = [.drw] ∧ m ≤ 100 ∧ ∀ ns : List Int, Byts ns → ns.length = m → post (.new (ns.map D.int)) [.drw]
theorem ok_l_bytes (T : Txt K mg) : FnOk P w K mg base CX0 2 T.a_l_bytes T.d_l_bytes ["_law_state", "_law_many"] (spG K wBytes) := by
  refine T.F_l_bytes.ok sc_l_bytes (fun vs H Q E h => spG_len h fun xs cs post exc ⟨a, e, _⟩ => by rw [e]; rfl) (fun cdv A outer s H vs Q E hr h => ⟨_, (pss_cons (ps_set (i := 2) sc_l_bytes.nd rfl (Or.inl rfl) (pe_call (ok_l_digit T) (hr.mono (by decide)) (by rfl) T.g_l_digit T.F_l_digit.kp T.b_l_digit .nil pass0 (pa_cons (pv 0) (pa_cons pe_int pa_nil))))
      (pss_cons (ps_set (i := 3) sc_l_bytes.nd rfl (Or.inl rfl) (pe_lst pa_nil))
      (pss_cons (ps_for PassesOwn.never rfl (pi_range1 (by rfl) T.m_range (pa_cons (pv 1) pa_nil)) (pg_name (i := 4) sc_l_bytes.nd rfl (Or.inl rfl))
        (pss_cons (ps_set (i := 5) sc_l_bytes.nd rfl (Or.inl rfl) (pe_call (ok_l_digit T) (hr.mono (by decide)) (by rfl) T.g_l_digit T.F_l_digit.kp T.b_l_digit .nil pass0 (pa_cons (pv 0) (pa_cons pe_int pa_nil))))
      (pss_one (ps_expr (pe_bm PySem.F.plainAttrs_list PySem.F.slot_list_append PySem.F.type_list_append mt_append (pv 3) (pa_cons (pe_ix ix_list (pe_lst (pa_cons (pv 5) (pa_cons (pe_op op_mod (pv 5) pe_int) (pa_cons (pe_ix ix_list (pe_lst (pa_cons pe_int (pa_cons pe_int (pa_cons pe_int (pa_cons pe_int (pa_cons pe_int (pa_cons (pv 5) pa_nil))))))) (pe_op op_mod (pv 5) pe_int) (fun _ _ => rfl)) pa_nil)))) (pv 2) (fun _ _ => rfl)) pa_nil))))))
      (pss_one (ps_ret (pv 3)))))), enter h fun F xs cs post hE hw => ?_⟩)
  obtain ⟨m, rfl, rfl, hm, q⟩ := hw
  walk_at "E"
  refine wsp_digit rfl (by decide) (by decide) fun p p0 p1 => ?_
  walk_at "E"
  refine ⟨⟨by omega, by omega⟩, ?_⟩
  walk_at "nr2"
  rw [show ((m : Int)).toNat = m by omega]
  refine loop_rng (fun i ρ => ∃ (ns : List Int) (x y : Option AV), ρ = ⟨[some (.cel 0), some (.dat (.int m)), some (.dat (.int p)), some (.cel 1), x, y], [.drw, .lst (ns.map D.int)]⟩ ∧ Byts ns ∧ ns.length = i) ⟨[], _, _, rfl, (fun _ z => nomatch z), rfl⟩ ?_ ?_
  · rintro ρ ⟨ns, x, y, rfl, hb, hl⟩
    refine ⟨trivial, ?_⟩
    walk_at "E"
    exact ⟨_, .cel (Nat.le_of_ble_eq_true rfl) rfl, rfl, q ns hb hl⟩
  · rintro i ρ hi ⟨ns, x, y, rfl, hb, hl⟩
    refine ⟨trivial, ?_⟩
    walk_at "E"
    refine wsp_digit rfl (by decide) (by decide) fun b b0 b1 => ?_
    walk_at "E"
    refine wr_Ii (by decide) ?_
    walk_at "E"
    refine wr_Ii (by decide) ?_
    walk_at "E"
    refine wr_ixA (by walk_at "il") (Int.emod_nonneg _ (by decide)) (by show b % 6 < ((6 : Nat) : Int); exact Int.emod_lt_of_pos _ (by decide)) fun d hd => ?_
    obtain ⟨c, rfl, c0, c1⟩ : ∃ c : Int, d = .int c ∧ 0 ≤ c ∧ c ≤ 255 := by
      simp only [List.mem_cons, List.not_mem_nil, or_false] at hd
      rcases hd with rfl | rfl | rfl | rfl | rfl | rfl
      · exact ⟨_, rfl, by omega, by omega⟩
      · exact ⟨_, rfl, by omega, by omega⟩
      · exact ⟨_, rfl, by omega, by omega⟩
      · exact ⟨_, rfl, by omega, by omega⟩
      · exact ⟨_, rfl, by omega, by omega⟩
      · exact ⟨_, rfl, by omega, by omega⟩
    walk_at "E"
    refine wr_ixA (by walk_at "il") p0 (by show p < ((3 : Nat) : Int); exact p1) fun d hd => ?_
    obtain ⟨e, rfl, e0, e1⟩ : ∃ e : Int, d = .int e ∧ 0 ≤ e ∧ e ≤ 255 := by
      simp only [List.mem_cons, List.not_mem_nil, or_false] at hd
      rcases hd with rfl | rfl | rfl
      · exact ⟨_, rfl, by omega, by omega⟩
      · exact ⟨_, rfl, by omega, by omega⟩
      · exact ⟨_, rfl, by omega, by omega⟩
    walk_at "E"
    · rw [List.length_map]; omega
    walk_at "E"
    rw [show ns.map D.int ++ [.int e] = (ns ++ [e]).map D.int by rw [List.map_append]; rfl]
    refine now ⟨ns ++ [e], _, _, rfl, fun z hz => ?_, by rw [List.length_append, hl]; rfl⟩
    rcases List.mem_append.mp hz with hz | hz
    · exact hb z hz
    · rw [List.mem_singleton] at hz; subst hz; exact ⟨e0, e1⟩
def wNum : PW0 := fun xs cs post _ => xs = [.cel 0] ∧ cs = [.drw] ∧ ∀ n : Nat, (n : Int) ≤ 10 ^ 60 → post (.dat (.int n)) [.drw]
theorem ok_l_number (T : Txt K mg) : FnOk P w K mg base CX0 2 T.a_l_number T.d_l_number ["_law_state"] (spG K wNum) := by
  refine T.F_l_number.ok sc_l_number (fun vs H Q E h => spG_len h fun xs cs post exc ⟨e, _⟩ => by rw [e]; rfl) (fun cdv A outer s H vs Q E hr h => ⟨_, (pss_cons (ps_set (i := 1) sc_l_number.nd rfl (Or.inl rfl) (pe_call (ok_l_digit T) (hr.mono (by decide)) (by rfl) T.g_l_digit T.F_l_digit.kp T.b_l_digit .nil pass0 (pa_cons (pv 0) (pa_cons pe_int pa_nil))))
      (pss_cons (ps_if (pt_cmpR op_eq (pv 1) pe_int (nomark _)) (pss_one (ps_ret (pe_call (ok_l_digit T) (hr.mono (by decide)) (by rfl) T.g_l_digit T.F_l_digit.kp T.b_l_digit .nil pass0 (pa_cons (pv 0) (pa_cons pe_int pa_nil))))) pss_nil)
      (pss_cons (ps_if (pt_cmpR op_eq (pv 1) pe_int (nomark _)) (pss_cons (ps_set (i := 2) sc_l_number.nd rfl (Or.inl rfl) pe_int)
      (pss_cons (ps_for PassesOwn.never rfl (pi_range1 (by rfl) T.m_range (pa_cons (pe_op op_add pe_int (pe_call (ok_l_digit T) (hr.mono (by decide)) (by rfl) T.g_l_digit T.F_l_digit.kp T.b_l_digit .nil pass0 (pa_cons (pv 0) (pa_cons pe_int pa_nil)))) pa_nil)) (pg_name (i := 3) sc_l_number.nd rfl (Or.inl rfl))
        (pss_one (ps_set (i := 2) sc_l_number.nd rfl (Or.inl rfl) (pe_op op_mul (pv 2) pe_int))))
      (pss_one (ps_ret (pe_op op_sub (pe_op op_add (pv 2) (pe_call (ok_l_digit T) (hr.mono (by decide)) (by rfl) T.g_l_digit T.F_l_digit.kp T.b_l_digit .nil pass0 (pa_cons (pv 0) (pa_cons pe_int pa_nil)))) pe_int))))) pss_nil)
      (pss_cons (ps_set (i := 2) sc_l_number.nd rfl (Or.inl rfl) pe_int)
      (pss_cons (ps_for PassesOwn.never rfl (pi_range1 (by rfl) T.m_range (pa_cons (pe_op op_add pe_int (pe_call (ok_l_digit T) (hr.mono (by decide)) (by rfl) T.g_l_digit T.F_l_digit.kp T.b_l_digit .nil pass0 (pa_cons (pv 0) (pa_cons pe_int pa_nil)))) pa_nil)) (pg_name (i := 3) sc_l_number.nd rfl (Or.inl rfl))
        (pss_one (ps_set (i := 2) sc_l_number.nd rfl (Or.inl rfl) (pe_op op_add (pe_op op_mul (pv 2) (pe_op op_pow pe_int pe_int)) (pe_call (ok_l_digit T) (hr.mono (by decide)) (by rfl) T.g_l_digit T.F_l_digit.kp T.b_l_digit .nil pass0 (pa_cons (pv 0) (pa_cons (pe_op op_pow pe_int pe_int) pa_nil)))))))
      (pss_one (ps_ret (pv 2)))))))), enter h fun F xs cs post hE hw => ?_⟩)
  obtain ⟨rfl, rfl, q⟩ := hw
  walk_at "E"
  refine wsp_digit rfl (by decide) (by decide) fun p p0 p1 => ?_
  walk_at "E"
  refine ifC (fun c => ?_) (fun c => ?_)
  · walk_at "E"
    refine wsp_digit rfl (by decide) (by decide) fun d d0 d1 => ?_
    obtain ⟨n, rfl⟩ : ∃ n : Nat, d = n := ⟨d.toNat, by omega⟩
    exact fin_dat rfl (q n (by omega))
  · walk_at "E"
    refine ifC (fun c => ?_) (fun c => ?_)
    · walk_at "E"
      refine wsp_digit rfl (by decide) (by decide) fun d d0 d1 => ?_
      walk_at "E"
      refine ⟨⟨by omega, by omega⟩, ?_⟩
      walk_at "nr2"
      obtain ⟨m, hm⟩ : ∃ m : Nat, 1 + d = m := ⟨(1 + d).toNat, by omega⟩
      rw [hm, show ((m : Int)).toNat = m by omega]
      refine loop_rng (fun i ρ => ∃ (x : Option AV), ρ = ⟨[some (.cel 0), some (.dat (.int p)), some (.dat (.int ((128 ^ i : Nat) : Int))), x], [.drw]⟩) ⟨_, rfl⟩ ?_ ?_
      · rintro ρ ⟨x, rfl⟩
        refine ⟨trivial, ?_⟩
        walk_at "E"
        refine wsp_digit rfl (by decide) (by decide) fun g g0 g1 => ?_
        walk_at "E"
        have b1 : 1 ≤ 128 ^ m := Nat.pow_pos (by decide)
        have b2 : 128 ^ m ≤ 128 ^ 28 := Nat.pow_le_pow_right (by decide) (by omega)
        have b3 : (128 : Nat) ^ 28 + 2 ≤ 10 ^ 60 := by decide
        generalize 128 ^ m = y at *
        obtain ⟨n, hn⟩ : ∃ n : Nat, (y : Int) + g - 1 = n := ⟨((y : Int) + g - 1).toNat, by omega⟩
        rw [hn]
        exact fin_dat rfl (q n (by omega))
      · rintro i ρ hi ⟨x, rfl⟩
        refine ⟨trivial, ?_⟩
        walk_at "E"
        refine wr_Ii (.inr (by decide)) ?_
        walk_at "E"
        rw [show ((128 ^ i : Nat) : Int) * 128 = ((128 ^ (i + 1) : Nat) : Int) by rw [Nat.pow_succ, Int.natCast_mul]; rfl]
        exact now ⟨_, rfl⟩
    · walk_at "E"
      refine wsp_digit rfl (by decide) (by decide) fun d d0 d1 => ?_
      walk_at "E"
      refine ⟨⟨by omega, by omega⟩, ?_⟩
      walk_at "nr2"
      obtain ⟨m, hm⟩ : ∃ m : Nat, 1 + d = m := ⟨(1 + d).toNat, by omega⟩
      rw [hm, show ((m : Int)).toNat = m by omega]
      refine loop_rng (fun i ρ => ∃ (n : Nat) (x : Option AV), ρ = ⟨[some (.cel 0), some (.dat (.int p)), some (.dat (.int (n : Int))), x], [.drw]⟩ ∧ n < (10 ^ 10) ^ i) ⟨0, _, rfl, by decide⟩ ?_ ?_
      · rintro ρ ⟨n, x, rfl, hn⟩
        refine ⟨trivial, ?_⟩
        walk_at "E"
        have b2 : (10 ^ 10) ^ m ≤ (10 ^ 10) ^ 6 := Nat.pow_le_pow_right (by decide) (by omega)
        have b3 : (10 ^ 10) ^ 6 = (10 : Nat) ^ 60 := by decide
        exact fin_dat rfl (q n (by omega))
      · rintro i ρ hi ⟨n, x, rfl, hn⟩
        refine ⟨trivial, ?_⟩
        walk_at "E"
        refine wr_Ii ⟨by decide, by decide, by decide⟩ ?_
        rw [show (10 : Int) ^ Int.toNat 10 = 10000000000 by decide]
        walk_at "E"
        refine wr_Ii (.inr (by decide)) ?_
        walk_at "E"
        refine wr_Ii ⟨by decide, by decide, by decide⟩ ?_
        rw [show (10 : Int) ^ Int.toNat 10 = 10000000000 by decide]
        walk_at "E"
        refine wsp_digit rfl (by decide) (by decide) fun g g0 g1 => ?_
        obtain ⟨g, rfl⟩ : ∃ n : Nat, g = n := ⟨g.toNat, by omega⟩
        walk_at "E"
        rw [show (n : Int) * 10000000000 + (g : Int) = ((n * 10000000000 + g : Nat) : Int) by omega]
        refine now ⟨n * 10000000000 + g, _, rfl, ?_⟩
        rw [Nat.pow_succ]
        omega
end

/-! ### a call with keywords; a law's promise -/
theorem we_callN {K : PySem.W.Frag} {F : Fx} {ρ : En} {k : AV → En → Prop} {n m : Nat} {sp : Sp} {gV : List V → List V → List V} {E : XK} {t tk : TA} (h : WpA K F t ρ fun xs ρ1 => WpA K F tk ρ1 fun ys ρ2 => ∃ zs, xs.length = n ∧ ys.length = m ∧ (∀ G as vs ws, RepAs K G as xs vs → RepAs K G as ys ws → RepAs K G as zs (gV vs ws)) ∧ WpSp K F sp (fun _ => E) zs ρ2 k) : WpE K F (L2.tCallN n m sp gV E t tk) ρ k := fun as σ H G e Q q =>
  h as σ H G e _ fun xs ρ1 vs as1 H1 G1 h1 e1 g1 r1 => h1 as1 σ H1 G1 e1 _ fun ys ρ2 ws as2 H2 G2 ⟨zs, l1, l2, hg, h2⟩ e2 g2 r2 => ⟨by rw [r1.length]; exact l1, by rw [r2.length]; exact l2, h2 as2 σ H2 G2 _ e2 (hg _ _ _ _ (r1.mono g2) r2) Q (q.imp (g1.trans g2) fun _ _ z => z)⟩
def spLaw (K : PySem.W.Frag) : Sp := fun vs H Q _ => ∃ (a : Addr) (ns : List Int), vs = [.ref a] ∧ SqL K H a (ns.map V.int) ∧ ns.length ≤ 63 ∧ ∀ H', Q (.bl true) H'
def wLaw : PW0 := fun xs cs post _ => ∃ ns : List Int, xs = [.dat (.scr (ns.map D.int))] ∧ cs = [] ∧ ns.length ≤ 63 ∧ post (.dat (.bl true)) []
theorem law_of {K : PySem.W.Frag} {vs : List V} {H : Hp} {Q : VK} {E : XK} (h : spLaw K vs H Q E) : spG K wLaw vs H Q E := by
  obtain ⟨a, ns, rfl, hs, hl, q⟩ := h
  refine ⟨H, [], [.dat (.scr (ns.map D.int))], [], fun r _ => r = .dat (.bl true), fun _ => False, Same.refl _, ⟨rfl, List.nodup_nil, fun j c a hc => by simp at hc⟩, .cons (Rep.scr hs Reps.ofV) .nil, ⟨ns, rfl, rfl, hl, rfl⟩, ?_, fun _ _ z => z.elim⟩
  intro r cs v H' G' hp _ _ _ _ _ rr
  subst hp
  rw [Rep.blE rr]
  exact q H'
theorem cut_ints (ns : List Int) (lo hi : Option Int) : ∃ ms : List Int, cutD (ns.map D.int) lo hi = ms.map D.int ∧ ms.length ≤ ns.length := by
  refine ⟨(ns.drop (HT.sIx ns.length 0 lo)).take (HT.sIx ns.length ns.length hi - HT.sIx ns.length 0 lo), ?_, ?_⟩
  · unfold cutD
    rw [List.length_map, List.map_take, List.map_drop]
  · rw [List.length_take, List.length_drop]
    omega
/-! ### a list's insert -/
section
variable {K : PySem.W.Frag} {F : Fx} {ρ : En} {k : AV → En → Prop}
theorem wm_insert {j : Nat} {x : AV} {ds : List D} {d : D} {i : Int} {ρ2 : En} (fz : Frz [x] ρ [d] ρ2) (hc : ρ2.ce[j]? = some (.lst ds)) (hl : ds.length < 16000000) (i0 : 0 ≤ i) (i1 : i < 16000000) (hk : k (.dat .non) (ρ2.cell j (.lst (ds.take i.toNat ++ [d] ++ ds.drop i.toNat)))) : WpM K F (fun x vs H Q => ∃ (l : Addr) (xs : List V) (i : Int) (y : V), x = .ref l ∧ vs = [.int i, y] ∧ H l = some (.lst xs) ∧ xs.length < sizeLine ∧ 0 ≤ i ∧ i < 2 ^ 63 ∧ Q .non (upd H l (.lst (xs.take i.toNat ++ [y] ++ xs.drop i.toNat)))) (.cel j) [.dat (.int i), x] ρ k := fun as σ H G v vs e r1 r2 Q q => by
  cases r2 with
  | cons ri r2 =>
    have ri := Rep.intE ri
    subst ri
    obtain ⟨G2, e2, g2, r3⟩ := fz.run e r2
    obtain ⟨a, ha, rfl⟩ := r1
    cases r3 with
    | cons y z =>
      cases z
      obtain ⟨_, _, g, ws, hw, hr⟩ := e2.ce j _ a hc ha
      refine ⟨a, ws, i, _, rfl, rfl, hw, szbl (by rw [hr.length]; omega), i0, by omega, q _ _ _ as _ G2 hk (e2.setC hc ha g ⟨g, _, upd_same, ?_⟩) g2 Rep.non⟩
      exact ((hr.take _).append (.cons y .nil)).append (hr.drop _)
def frzK (k : AV → En → Prop) : AV → En → Prop := fun av ρ' => ∃ j ds, av = .cel j ∧ ρ'.ce[j]? = some (.lst ds) ∧ k (.dat (.lst ds)) (ρ'.frz j ds)
theorem got_frz {as : List Addr} {σ : L2.St} {G : Hp} {Q : VK} (q : Got K F ρ as σ G k Q) : Got K F ρ as σ G (frzK k) Q := fun av ρ' v as' H' G' ⟨j, ds, ea, hc, hk⟩ e' g' ra => by
  subst ea
  obtain ⟨a, ha, rfl⟩ := ra
  obtain ⟨vs, e2, g2, rr⟩ := e'.frz hc ha
  exact q _ _ _ as' H' _ hk e2 (g'.trans g2) rr
/-- a new list that nobody writes to is data at once -/
theorem wr_frz {r : R2} {x y : AV} (h : WpR K F r x y ρ (frzK k)) : WpR K F r x y ρ k := fun as σ H G vx vy e r1 r2 Q q => h as σ H G vx vy e r1 r2 Q (got_frz q)
/-- a cell that nobody writes to any more is data -/
theorem ws_frz {t : TS} {ks : KS} {j : Nat} {ds : List D} (hj : ρ.ce[j]? = some (.lst ds)) (h : WpS K F t (ρ.frz j ds) ks) : WpS K F t ρ ks := fun as σ H G e D q => by
  have hl : j < as.length := by rw [e.ln]; exact (List.getElem?_eq_some_iff.mp hj).1
  obtain ⟨vs, e2, g2, _⟩ := e.frz hj (List.getElem?_eq_getElem hl)
  exact h as σ H _ e2 D (EndsOk.grow K F q g2)
end
local macro_rules | `(tactic| walk_at "cat") => `(tactic| refine wr_cat (by walk_at "il") (by walk_at "il") (by simp only [List.length_append, List.length_map, List.length_cons, List.length_nil]; omega) ?_)
local macro_rules | `(tactic| walk_at "E") => `(tactic| repeat (first
  | (with_reducible refine ws_seq ?_; walk_at "nr2")
  | walk_at "d"
  | refine we_dnew ?_
  | refine ifT rfl ?_
  | refine ifF rfl ?_))
section
variable {P : Program} {w : World} {K : PySem.W.Frag} {mg : Str → Option Value} {base : Heap}
def OddR (d : D) : Prop := pl d = true ∧ isRw d = false ∧ lnR d ≤ 2000
theorem pls_app {a b : List D} (h : pls a = true) (k : pls b = true) : pls (a ++ b) = true := by
  induction a with
  | nil => exact k
  | cons x a ih =>
    obtain ⟨h1, h2⟩ := pls_cons h
    show (pl x && pls (a ++ b)) = true
    rw [h1, ih h2]; rfl
def wOddRow : PW0 := fun xs cs post _ => ∃ ns : List Int, xs = [.cel 0, .dat (.lst (ns.map D.int))] ∧ cs = [.drw] ∧ ns.length ≤ 900 ∧ (∀ d, OddR d → post (.dat d) [.drw]) ∧ (∀ ds, OddR (.lst ds) → post (.new ds) [.drw])
theorem ok_l_odd_row (T : Txt K mg) : FnOk P w K mg base CX0 2 T.a_l_odd_row T.d_l_odd_row ["_law_state", "_law_row"] (spG K wOddRow) := by
  refine T.F_l_odd_row.ok sc_l_odd_row (fun vs H Q E h => spG_len h fun xs cs post exc ⟨a, e, _⟩ => by rw [e]; rfl) (fun cdv A outer s H vs Q E hr h => ⟨_, (pss_cons (ps_if (pt_cmpR op_eq (pe_call (ok_l_digit T) (hr.mono (by decide)) (by rfl) T.g_l_digit T.F_l_digit.kp T.b_l_digit .nil pass0 (pa_cons (pv 0) (pa_cons pe_int pa_nil))) pe_int (nomark _)) (pss_one (ps_ret (pe_ix ix_list (pe_lst (pa_cons pe_non (pa_cons (pe_callTy call_tuple_of (by rfl) T.m_tuple (by decide +kernel) (pa_cons (pv 1) pa_nil)) (pa_cons pe_str (pa_cons pe_int (pa_cons pe_dnewK (pa_cons pe_str (pa_cons pe_int pa_nil)))))))) (pe_call (ok_l_digit T) (hr.mono (by decide)) (by rfl) T.g_l_digit T.F_l_digit.kp T.b_l_digit .nil pass0 (pa_cons (pv 0) (pa_cons pe_int pa_nil))) (fun _ _ => rfl)))) pss_nil)
      (pss_cons (ps_set (i := 2) sc_l_odd_row.nd rfl (Or.inl rfl) (pe_ix ix_list (pe_lst (pa_cons pe_int (pa_cons (pe_un un_neg pe_int) (pa_cons (pe_cmpR op_eq pe_int pe_int (nomark _)) (pa_cons pe_non (pa_cons pe_str (pa_cons (pe_lst (pa_cons pe_int pa_nil)) (pa_cons (pe_tup (pa_cons pe_int pa_nil)) (pa_cons (pe_op op_pow pe_int pe_int) (pa_cons (pe_un un_neg pe_int) (pa_cons (pe_cmpR op_eq pe_int pe_int (nomark _)) pa_nil))))))))))) (pe_call (ok_l_digit T) (hr.mono (by decide)) (by rfl) T.g_l_digit T.F_l_digit.kp T.b_l_digit .nil pass0 (pa_cons (pv 0) (pa_cons pe_int pa_nil))) (fun _ _ => rfl)))
      (pss_cons (ps_set (i := 3) sc_l_odd_row.nd rfl (Or.inl rfl) (pe_call (ok_l_digit T) (hr.mono (by decide)) (by rfl) T.g_l_digit T.F_l_digit.kp T.b_l_digit .nil pass0 (pa_cons (pv 0) (pa_cons (pe_op op_add (pe_callB call_len_seq (by rfl) T.m_len (by decide +kernel) (pa_cons (pv 1) pa_nil)) pe_int) pa_nil))))
      (pss_one (ps_ret (pe_op op_catF (pe_op op_catF (pe_slice sl_list (pv 1) po_none (po_some (pv 3))) (pe_lst (pa_cons (pv 2) pa_nil))) (pe_slice sl_list (pv 1) (po_some (pv 3)) po_none))))))), enter h fun F xs cs post hE hw => ?_⟩)
  obtain ⟨ns, rfl, rfl, hl, q1, q2⟩ := hw
  walk_at "E"
  refine wsp_digit rfl (by decide) (by decide) fun p p0 p1 => ?_
  walk_at "E"
  refine ifC (fun c => ?_) (fun c => ?_)
  · walk_at "E"
    refine wsp_digit rfl (by decide) (by decide) fun g g0 g1 => ?_
    walk_at "E"
    refine wr_ixA (by walk_at "il") g0 (by show g < ((7 : Nat) : Int); exact g1) fun d hd => ?_
    refine fin_dat rfl (q1 d ?_)
    simp only [List.mem_cons, List.not_mem_nil, or_false] at hd
    rcases hd with rfl | rfl | rfl | rfl | rfl | rfl | rfl
    · exact ⟨rfl, rfl, by decide⟩
    · exact ⟨by rw [pl]; exact pls_int ns, rfl, by show (0 : Int) ≤ 2000; decide⟩
    · exact ⟨rfl, rfl, by decide⟩
    · exact ⟨rfl, rfl, by decide⟩
    · exact ⟨rfl, rfl, by decide⟩
    · exact ⟨rfl, rfl, by decide⟩
    · exact ⟨rfl, rfl, by decide⟩
  · walk_at "E"
    refine wr_Ii ⟨by decide, by decide, by decide⟩ ?_
    walk_at "E"
    refine wsp_digit rfl (by decide) (by decide) fun g g0 g1 => ?_
    walk_at "E"
    refine wr_ixA (by walk_at "il") g0 (by show g < ((10 : Nat) : Int); exact g1) fun d hd => ?_
    have od : pl d = true ∧ inR 0 255 d = false := by
      simp only [List.mem_cons, List.not_mem_nil, or_false] at hd
      rcases hd with rfl | rfl | rfl | rfl | rfl | rfl | rfl | rfl | rfl | rfl <;> exact ⟨rfl, by decide⟩
    clear hd
    walk_at "E"
    refine wsp_digit rfl (by rw [List.length_map]; omega) (by rw [List.length_map]; omega) fun a a0 a1 => ?_
    walk_at "E"
    obtain ⟨X, eX, lX⟩ := cut_ints ns none (some a)
    obtain ⟨Y, eY, lY⟩ := cut_ints ns (some a) none
    rw [eX]
    walk_at "E"
    walk_at "cat"
    walk_at "E"
    rw [eY]
    walk_at "E"
    walk_at "cat"
    refine ⟨_, .cel (Nat.le_of_ble_eq_true rfl) rfl, rfl, q2 _ ⟨?_, ?_, ?_⟩⟩
    · exact pls_app (pls_app (pls_int X) (show (pl d && pls []) = true by rw [od.1]; rfl)) (pls_int Y)
    · show (X.map D.int ++ [d] ++ Y.map D.int).all (inR 0 255) = false
      rw [List.all_append, List.all_append, List.all_cons, od.2]
      simp
    · show (((X.map D.int ++ [d] ++ Y.map D.int).length : Nat) : Int) ≤ 2000
      simp only [List.length_append, List.length_map, List.length_cons, List.length_nil]
      omega
end

section
variable {P : Program} {w : World} {K : PySem.W.Frag} {mg : Str → Option Value} {base : Heap}
/-! ### what is told, or how it is refused -/
def wordS (K : PySem.W.Frag) (w : Str) (X Y : Addr) : Suite := fun a cls d => tRet (tTup (tCons (tC (V.str w)) (tCons (tOrV
  (tCB (fun xs H Q => ∃ D, cls = Value.ref D ∧ d = none ∧ ExcC K D ∧ rIsE K D a xs H Q) (tCons (tVar 1) (tCons (tC (V.ref X)) tNil)))
  (tCB (fun xs H Q => ∃ D, cls = Value.ref D ∧ d = none ∧ ExcC K D ∧ rIsE K D a xs H Q) (tCons (tVar 1) (tCons (tC (V.ref Y)) tNil)))) tNil)))
def wordL (T : Txt K mg) : List (Value × Option Nat × Suite) :=
  [(Value.ref T.c_NoBytes, some 1, wordS K "bytes" T.c_NoNumber T.c_NoPlace), (Value.ref T.c_NoPlace, some 1, wordS K "place" T.c_NoNumber T.c_NoBytes), (Value.ref T.c_NoNumber, some 1, wordS K "number" T.c_NoPlace T.c_NoBytes),
    (Value.ref T.c_ScrollError, none, fun _ _ _ => tRet (tTup (tCons (tC (V.str "other")) (tCons (tC (V.bl true)) tNil))))]
theorem give_l_word (T : Txt K mg) {A : Around} {st : List Env} {q : Str} (cdg : Value) (f z : Addr) (s : Shared) (H : Hp) (Q : VK) (r : XK → Hp → VK → Prop) (act : ∀ (W : WX) (pn : List (Addr × Obj)) (xe : Value → Shared → Prop) (p1 p2 : Pos), Takes ((cxOf C8.CX0 P w K mg base N_l_word "_law_word" (defScope s_l_word) T.a_l_word cdg A st s H C8.E0).nox.tr pn xe) W → PE ((cxOf C8.CX0 P w K mg base N_l_word "_law_word" (defScope s_l_word) T.a_l_word cdg A st s H C8.E0).nox.tr pn xe) (.Call (.Name "_law_ask" p1) [] [] p2) (tAct f z q r W))
    (h : TTry K N_l_word "told" q (wordL T) r z H Q) :
      ∃ t, PSs (cxOf C8.CX0 P w K mg base N_l_word "_law_word" (defScope s_l_word) T.a_l_word cdg A st s H C8.E0).nox (defBody s_l_word) t ∧ t { nx := fun _ H' => Q .non H', rt := Q } (L2.start N_l_word [.ref f]) H :=
  ⟨_, (pss_one (ps_tryT rfl rfl takes0
        (fun W pn xe tk po => (pss_one (ps_ret (pe_tup (pa_cons pe_str (pa_cons (act W pn xe _ _ tk) pa_nil))))))
        (.named (i := 1) sc_l_word.nd rfl rfl ⟨rfl, by decide, .inl T.g_NoBytes⟩ (fun a oe cls d pn hz hf => (pss_one (ps_ret (pe_tup (pa_cons pe_str (pa_cons (pe_or (pe_callB (call_isE2 (K := K) rfl hz hf) (by rfl) T.m_isinstance (by decide +kernel) (pa_cons (pv 1) (pa_cons (pe_glob (v := .ref T.c_NoNumber) (by rfl) T.g_NoNumber rfl) pa_nil))) (pe_one (pe_callB (call_isE2 (K := K) rfl hz hf) (by rfl) T.m_isinstance (by decide +kernel) (pa_cons (pv 1) (pa_cons (pe_glob (v := .ref T.c_NoPlace) (by rfl) T.g_NoPlace rfl) pa_nil))))) pa_nil)))))) (.named (i := 1) sc_l_word.nd rfl rfl ⟨rfl, by decide, .inl T.g_NoPlace⟩ (fun a oe cls d pn hz hf => (pss_one (ps_ret (pe_tup (pa_cons pe_str (pa_cons (pe_or (pe_callB (call_isE2 (K := K) rfl hz hf) (by rfl) T.m_isinstance (by decide +kernel) (pa_cons (pv 1) (pa_cons (pe_glob (v := .ref T.c_NoNumber) (by rfl) T.g_NoNumber rfl) pa_nil))) (pe_one (pe_callB (call_isE2 (K := K) rfl hz hf) (by rfl) T.m_isinstance (by decide +kernel) (pa_cons (pv 1) (pa_cons (pe_glob (v := .ref T.c_NoBytes) (by rfl) T.g_NoBytes rfl) pa_nil))))) pa_nil)))))) (.named (i := 1) sc_l_word.nd rfl rfl ⟨rfl, by decide, .inl T.g_NoNumber⟩ (fun a oe cls d pn hz hf => (pss_one (ps_ret (pe_tup (pa_cons pe_str (pa_cons (pe_or (pe_callB (call_isE2 (K := K) rfl hz hf) (by rfl) T.m_isinstance (by decide +kernel) (pa_cons (pv 1) (pa_cons (pe_glob (v := .ref T.c_NoPlace) (by rfl) T.g_NoPlace rfl) pa_nil))) (pe_one (pe_callB (call_isE2 (K := K) rfl hz hf) (by rfl) T.m_isinstance (by decide +kernel) (pa_cons (pv 1) (pa_cons (pe_glob (v := .ref T.c_NoBytes) (by rfl) T.g_NoBytes rfl) pa_nil))))) pa_nil)))))) (.bare ⟨rfl, by decide, .inl T.g_ScrollError⟩ (fun a oe cls d pn hz hf => (pss_one (ps_ret (pe_tup (pa_cons pe_str (pa_cons pe_bl pa_nil)))))) .nil)))))), h f⟩
section
variable {F : Fx} {ρ : En} {k : AV → En → Prop} {f : Addr}
theorem word_suite {T : Txt K mg} {C X Y e : Addr} {w : Str} {cc : List Cell} {ks : KS} (hx : ExcC K C) (h1 : PySem.W.kitOne K (.ref C) (.ref X) = some false) (h2 : PySem.W.kitOne K (.ref C) (.ref Y) = some false) (hk : ks.rt (.dat (.tup [.str w, .bl false])) ⟨[some (.dat (.cls f)), some (.dat (.cls e))], cc⟩) : WpS K F (wordS K w X Y e (.ref C) none) ⟨[some (.dat (.cls f)), some (.dat (.cls e))], cc⟩ ks := by
  unfold wordS
  walk_at "D"
  refine we_cr (fun _ => Rep.cls _) ?_
  walk_at "D"
  refine wc_isE hx h1 ?_
  walk_at "D"
  refine we_cr (fun _ => Rep.cls _) ?_
  walk_at "D"
  refine wc_isE hx h2 ?_
  walk_at "D"
  exact hk
theorem mix_bytes (T : Txt K mg) (hk : k (.dat (.tup [.str "bytes", .bl false])) ρ) : Mix K F T.c_NoBytes False (wordL T) ⟨[some (.dat (.cls f)), none], ρ.ce⟩ (ksW ρ k) :=
  ⟨true, T.em_NoBytes_NoBytes, fun e => word_suite (T := T) T.xc_NoBytes T.io_NoBytes_NoNumber T.io_NoBytes_NoPlace ⟨rfl, _, rfl, hk⟩⟩
theorem mix_place (T : Txt K mg) (hk : k (.dat (.tup [.str "place", .bl false])) ρ) : Mix K F T.c_NoPlace False (wordL T) ⟨[some (.dat (.cls f)), none], ρ.ce⟩ (ksW ρ k) :=
  ⟨false, T.em_NoPlace_NoBytes, true, T.em_NoPlace_NoPlace, fun e => word_suite (T := T) T.xc_NoPlace T.io_NoPlace_NoNumber T.io_NoPlace_NoBytes ⟨rfl, _, rfl, hk⟩⟩
theorem mix_number (T : Txt K mg) (hk : k (.dat (.tup [.str "number", .bl false])) ρ) : Mix K F T.c_NoNumber False (wordL T) ⟨[some (.dat (.cls f)), none], ρ.ce⟩ (ksW ρ k) :=
  ⟨false, T.em_NoNumber_NoBytes, false, T.em_NoNumber_NoPlace, true, T.em_NoNumber_NoNumber, fun e => word_suite (T := T) T.xc_NoNumber T.io_NoNumber_NoPlace T.io_NoNumber_NoBytes ⟨rfl, _, rfl, hk⟩⟩
end
theorem mapI_inj {ns ms : List Int} (h : ns.map D.int = ms.map D.int) : ns = ms := by
  induction ns generalizing ms with
  | nil =>
    cases ms with
    | nil => rfl
    | cons m ms => cases h
  | cons n ns ih =>
    cases ms with
    | nil => cases h
    | cons m ms =>
      rw [List.map_cons, List.map_cons] at h
      injection h with h1 h2
      cases h1
      rw [ih h2]
theorem fine_told (a p : Int) : fine 2 (.tup [.str "told", .tup [.int a, .int p]]) = true := by
  show (fine 1 (.str "told") && (true && true)) = true
  rw [show fine 1 (.str "told") = true by decide +kernel]
  rfl
def wReads (P : Addr) (q : Str) : PW0 := fun xs cs post _ => ∃ (ns : List Int) (j : Nat), xs = [.dat (.lst (ns.map D.int)), .dat (.int j)] ∧ cs = [.oth (tabX P q)] ∧ Byts ns ∧ j ≤ ns.length ∧ ns.length ≤ 1000 ∧ post (.dat (.bl true)) [.oth (tabX P q)]
theorem ok_l_reads (T : Txt K mg) (B : TabsT base mg T) : FnOk P w K mg base CX0 9 T.a_l_reads T.d_l_reads ["_law_row", "_law_at"] (spG K (wReads T.tw_l_reads (lamQ "_law_reads"))) := by
  refine T.C_l_reads.ok sc_l_reads (fun vs H Q E h => spG_len h fun xs cs post exc ⟨a, b, e, _⟩ => by rw [e]; rfl) (fun A outer s H vs Q E hr h => ⟨_, (pss_cons (ps_set (i := 4) sc_l_reads.nd rfl (Or.inr rfl) (pe_callTy call_list_of (by rfl) T.m_list (by decide +kernel) (pa_cons (pv 0) pa_nil)))
      (pss_cons (ps_set (i := 2) sc_l_reads.nd rfl (Or.inl rfl) (pe_call (ok_l_number_at T) (hr.mono (by decide)) (by rfl) T.g_l_number_at T.F_l_number_at.kp T.b_l_number_at .nil pass0 (pa_cons (pv 0) (pa_cons (pv 1) pa_nil))))
      (pss_cons (ps_set (i := 3) sc_l_reads.nd rfl (Or.inl rfl) (pe_lamW (k := 6) (q := lamQ "_law_reads") T.F_l_word T.b_l_word sc_l_word rfl (Or.inl rfl) (by rfl) T.g_l_word rfl (give_l_word T) B.tb_l_reads rfl (hr.mono (by decide)) (LamX.lamS_by (show LamX.lamSB (defScope s_l_reads) _ = true by decide +kernel)) rfl (fun _ _ _ _ _ => by first | rfl | with_unfolding_all rfl) (fun A outer s H E f z hr => (pe_call (ok_read_number T) (hr.mono (by decide)) (by rfl) T.g_read_number T.F_read_number.kp T.b_read_number .nil (passes_call (takes_of rfl rfl rfl rfl) (fun _ _ _ _ h => h)) (pa_cons (pv 4) (pa_cons (pv 1) pa_nil))))))
      (pss_cons (ps_if (pt_cmpR (op_neD hr.units) (pv 4) (pv 0) (nomark _)) (pss_one (ps_ret pe_bl)) pss_nil)
      (pss_cons (ps_if (pt_cmpR op_isN (pv 2) pe_non (nomark _)) (pss_one (ps_ret (pe_cmpR (op_eqD hr.units) (pv 3) (pe_tup (pa_cons pe_str (pa_cons pe_bl pa_nil))) (nomark _)))) pss_nil)
      (pss_one (ps_ret (pe_and (pe_cmpR (op_eqD hr.units) (pv 3) (pe_tup (pa_cons pe_str (pa_cons (pv 2) pa_nil))) (nomark _)) (pe_and (pe_callB call_isi (by rfl) T.m_isinstance (by decide +kernel) (pa_cons (pe_ix ix_tup (pv 3) pe_int (fun _ _ => rfl)) (pa_cons (pe_bltn (v := .ty "tuple") (by rfl) T.m_tuple (by decide +kernel) rfl) pa_nil))) (pe_one (pe_call (ok_l_plain T) (hr.mono (by decide)) (by rfl) T.g_l_plain T.F_l_plain.kp T.b_l_plain .nil pass0 (pa_cons (pe_callTy call_list_of (by rfl) T.m_list (by decide +kernel) (pa_cons (pe_ix ix_tup (pv 3) pe_int (fun _ _ => rfl)) pa_nil)) pa_nil)))))))))))), enter h fun F xs cs post hE hw => ?_⟩)
  obtain ⟨ns, j, rfl, rfl, hb, hj, hl, q⟩ := hw
  walk_at "D"
  walk_at "c"
  refine ⟨ns, j, rfl, rfl, hb, hj, by omega, ?_⟩
  have fn : ∀ n, fines n (ns.map D.int) = true := fun n => by
    clear h q hb hj hl
    induction ns with
    | nil => cases n <;> rfl
    | cons x ns ih => cases n <;> exact ih
  have self : (!eqD (.lst (ns.map D.int)) (.lst (ns.map D.int))) = false := by
    have nb : noBs (ns.map D.int) = true := by
      clear h q hb hj hl fn
      induction ns with
      | nil => rfl
      | cons x ns ih => exact ih
    rw [(eqD_iff (.lst (ns.map D.int)) (.lst (ns.map D.int)) nb nb).mpr rfl]; rfl
  cases hr : numA (ns.drop j) j with
  | none =>
    refine aft_hard rfl ?_
    dsimp only [resD]
    walk_at "D"
    refine we_lamW (j := 0) (fun C => C = T.c_NoNumber) rfl rfl (fun F1 E hE => ?_) (fun F1 f C hC => ?_)
    · walk_at "D"
      refine wsp0 (exc := fun C => C = T.c_NoNumber) (by walk_at "as") (fun C as σ H G hC e => hE C as σ H G hC e) ⟨_, _, rfl, rfl, by rw [pl]; exact pls_int ns, rfl, ?_, ?_, ?_, ?_⟩
      · show ((ns.map D.int).length : Int) ≤ 100000
        rw [List.length_map]; omega
      · exact fun z => absurd (rw_is hb) (by rw [z]; decide)
      · refine fun _ z => absurd (inR_int (lo := 0) (hi := lnR (.lst (ns.map D.int))) (i := j) (by omega) ?_) (by rw [z]; decide)
        show (j : Int) ≤ ((ns.map D.int).length : Int)
        rw [List.length_map]; omega
      · intro ns1 j1 e1 e2 hb1 hj1
        have e3 : ns = ns1 := mapI_inj (D.lst.inj e1)
        have e4 : j = j1 := by
          have := D.int.inj e2
          omega
        subst e3 e4
        exact ⟨fun _ => rfl, fun a p z => by rw [hr] at z; cases z⟩
    · subst hC
      refine mix_number T ?_
      walk_at "D"
      refine wr_neD 1 (by walk_at "od") (by walk_at "od") (by rw [fine]; exact fn 0) (by rw [fine]; exact fn 0) (by decide) ?_
      rw [self]
      walk_at "D"
      refine wr_eqD 1 (by walk_at "od") (by walk_at "od") (by decide +kernel) (by decide +kernel) (by decide) ?_
      rw [show eqD (.tup [.str "number", .bl false]) (.tup [.str "number", .bl false]) = true by decide +kernel]
      exact fin_dat rfl q
  | some ap =>
    obtain ⟨a, p⟩ := ap
    refine aft_hard rfl ?_
    dsimp only [resD]
    walk_at "D"
    refine we_lamW (j := 0) (fun C => False) rfl rfl (fun F1 E hE => ?_) (fun F1 f C hC => hC.elim)
    walk_at "D"
    refine wsp0 (exc := fun C => False) (by walk_at "as") (fun C as σ H G hC e => hC.elim) ⟨_, _, rfl, rfl, by rw [pl]; exact pls_int ns, rfl, ?_, ?_, ?_, ?_⟩
    · show ((ns.map D.int).length : Int) ≤ 100000
      rw [List.length_map]; omega
    · exact fun z => absurd (rw_is hb) (by rw [z]; decide)
    · refine fun _ z => absurd (inR_int (lo := 0) (hi := lnR (.lst (ns.map D.int))) (i := j) (by omega) ?_) (by rw [z]; decide)
      show (j : Int) ≤ ((ns.map D.int).length : Int)
      rw [List.length_map]; omega
    · intro ns1 j1 e1 e2 hb1 hj1
      have e3 : ns = ns1 := mapI_inj (D.lst.inj e1)
      have e4 : j = j1 := by
        have := D.int.inj e2
        omega
      subst e3 e4
      refine ⟨fun z => (by rw [hr] at z; cases z), fun a1 p1 z => ?_⟩
      rw [hr] at z
      cases z
      refine aft_hard rfl ⟨rfl, _, rfl, ?_⟩
      walk_at "D"
      refine wr_neD 1 (by walk_at "od") (by walk_at "od") (by rw [fine]; exact fn 0) (by rw [fine]; exact fn 0) (by decide) ?_
      rw [self]
      walk_at "D"
      refine wr_eqD 2 (by walk_at "od") (by walk_at "od") (fine_told a p) (fine_told a p) (by decide) ?_
      rw [(eqD_iff (.tup [.str "told", .tup [.int a, .int p]]) (.tup [.str "told", .tup [.int a, .int p]]) rfl rfl).mpr rfl]
      walk_at "D"
      walk_at "c"
      exact ⟨[a, p], rfl, rfl, (show (2 : Nat) ≤ 100000 by decide), aft_hard rfl (fin_dat rfl q)⟩
end

local macro_rules | `(tactic| walk_at "E") => `(tactic| repeat (first
  | (with_reducible refine ws_seq ?_; walk_at "nr2")
  | walk_at "d"
  | refine we_dnew ?_
  | refine ifT rfl ?_
  | refine ifF rfl ?_))
section
variable {P : Program} {w : World} {K : PySem.W.Frag} {mg : Str → Option Value} {base : Heap}
def wOdds (P : Addr) (q : Str) : PW0 := fun xs cs post _ => ∃ ns : List Int, xs = [.cel 0, .dat (.lst (ns.map D.int))] ∧ cs = [.drw, .oth (tabX P q)] ∧ Byts ns ∧ ns.length ≤ 900 ∧ post (.dat (.bl true)) [.drw, .oth (tabX P q)]
theorem fine_wb : fine 1 (.tup [.str "bytes", .bl false]) = true := by decide +kernel
theorem fine_wp : fine 1 (.tup [.str "place", .bl false]) = true := by decide +kernel
theorem fine_wn : fine 1 (.tup [.str "number", .bl false]) = true := by decide +kernel
theorem self_wb : (!eqD (.tup [.str "bytes", .bl false]) (.tup [.str "bytes", .bl false])) = false := by decide +kernel
theorem self_wp : (!eqD (.tup [.str "place", .bl false]) (.tup [.str "place", .bl false])) = false := by decide +kernel
theorem self_wn : eqD (.tup [.str "number", .bl false]) (.tup [.str "number", .bl false]) = true := by decide +kernel
theorem ok_l_odds (T : Txt K mg) (B : TabsT base mg T) : FnOk P w K mg base CX0 9 T.a_l_odds T.d_l_odds ["_law_state", "_law_row"] (spG K (wOdds T.tw_l_odds (lamQ "_law_odds"))) := by
  refine T.C_l_odds.ok sc_l_odds (fun vs H Q E h => spG_len h fun xs cs post exc ⟨a, e, _⟩ => by rw [e]; rfl) (fun A outer s H vs Q E hr h => ⟨_, (pss_cons (ps_set (i := 4) sc_l_odds.nd rfl (Or.inr rfl) (pe_ix ix_list (pe_lst (pa_cons (pe_un un_neg pe_int) (pa_cons (pe_op op_add (pe_callB call_len_seq (by rfl) T.m_len (by decide +kernel) (pa_cons (pv 1) pa_nil)) pe_int) (pa_cons (pe_cmpR op_eq pe_int pe_int (nomark _)) (pa_cons pe_non (pa_cons pe_str (pa_cons (pe_lst (pa_cons pe_int pa_nil)) (pa_cons (pe_tup (pa_cons pe_int pa_nil)) (pa_cons (pe_op op_add (pe_callB call_len_seq (by rfl) T.m_len (by decide +kernel) (pa_cons (pv 1) pa_nil)) pe_int) pa_nil))))))))) (pe_call (ok_l_digit T) (hr.mono (by decide)) (by rfl) T.g_l_digit T.F_l_digit.kp T.b_l_digit .nil pass0 (pa_cons (pv 0) (pa_cons pe_int pa_nil))) (fun _ _ => rfl)))
      (pss_cons (ps_set (i := 3) sc_l_odds.nd rfl (Or.inr rfl) (pe_call (ok_l_odd_row T) (hr.mono (by decide)) (by rfl) T.g_l_odd_row T.F_l_odd_row.kp T.b_l_odd_row .nil pass0 (pa_cons (pv 0) (pa_cons (pv 1) pa_nil))))
      (pss_cons (ps_set (i := 2) sc_l_odds.nd rfl (Or.inr rfl) (pe_ix ix_list (pe_lst (pa_cons (pe_un un_neg pe_int) (pa_cons (pe_cmpR op_eq pe_int pe_int (nomark _)) (pa_cons pe_non (pa_cons pe_str (pa_cons (pe_lst (pa_cons pe_int pa_nil)) (pa_cons (pe_tup (pa_cons pe_int pa_nil)) (pa_cons pe_dnewK (pa_cons (pe_un un_neg (pe_op op_pow pe_int pe_int)) pa_nil))))))))) (pe_call (ok_l_digit T) (hr.mono (by decide)) (by rfl) T.g_l_digit T.F_l_digit.kp T.b_l_digit .nil pass0 (pa_cons (pv 0) (pa_cons pe_int pa_nil))) (fun _ _ => rfl)))
      (pss_cons (ps_if (pt_cmpR (op_neD hr.units) (pe_lamW (k := 6) (q := lamQ "_law_odds") T.F_l_word T.b_l_word sc_l_word rfl (Or.inl rfl) (by rfl) T.g_l_word rfl (give_l_word T) B.tb_l_odds rfl (hr.mono (by decide)) (LamX.lamS_by (show LamX.lamSB (defScope s_l_odds) _ = true by decide +kernel)) rfl (fun _ _ _ _ _ => by first | rfl | with_unfolding_all rfl) (fun A outer s H E f z hr => (pe_call (ok_read_number T) (hr.mono (by decide)) (by rfl) T.g_read_number T.F_read_number.kp T.b_read_number .nil (passes_call (takes_of rfl rfl rfl rfl) (fun _ _ _ _ h => h)) (pa_cons (pv 3) (pa_cons (pv 4) pa_nil))))) (pe_tup (pa_cons pe_str (pa_cons pe_bl pa_nil))) (nomark _)) (pss_one (ps_ret pe_bl)) pss_nil)
      (pss_cons (ps_if (pt_cmpR (op_neD hr.units) (pe_lamW (k := 6) (q := lamQ "_law_odds") T.F_l_word T.b_l_word sc_l_word rfl (Or.inl rfl) (by rfl) T.g_l_word rfl (give_l_word T) B.tb_l_odds rfl (hr.mono (by decide)) (LamX.lamS_by (show LamX.lamSB (defScope s_l_odds) _ = true by decide +kernel)) rfl (fun _ _ _ _ _ => by first | rfl | with_unfolding_all rfl) (fun A outer s H E f z hr => (pe_call (ok_read_number T) (hr.mono (by decide)) (by rfl) T.g_read_number T.F_read_number.kp T.b1_read_number T.v1_read_number (passes_call (takes_of rfl rfl rfl rfl) (fun _ _ _ _ h => h)) (pa_cons (pv 3) pa_nil)))) (pe_tup (pa_cons pe_str (pa_cons pe_bl pa_nil))) (nomark _)) (pss_one (ps_ret pe_bl)) pss_nil)
      (pss_cons (ps_if (pt_cmpR (op_neD hr.units) (pe_lamW (k := 6) (q := lamQ "_law_odds") T.F_l_word T.b_l_word sc_l_word rfl (Or.inl rfl) (by rfl) T.g_l_word rfl (give_l_word T) B.tb_l_odds rfl (hr.mono (by decide)) (LamX.lamS_by (show LamX.lamSB (defScope s_l_odds) _ = true by decide +kernel)) rfl (fun _ _ _ _ _ => by first | rfl | with_unfolding_all rfl) (fun A outer s H E f z hr => (pe_call (ok_read_number T) (hr.mono (by decide)) (by rfl) T.g_read_number T.F_read_number.kp T.b_read_number .nil (passes_call (takes_of rfl rfl rfl rfl) (fun _ _ _ _ h => h)) (pa_cons (pv 1) (pa_cons (pv 4) pa_nil))))) (pe_tup (pa_cons pe_str (pa_cons pe_bl pa_nil))) (nomark _)) (pss_one (ps_ret pe_bl)) pss_nil)
      (pss_one (ps_ret (pe_cmpR (op_eqD hr.units) (pe_lamW (k := 3) (q := lamQ "_law_odds") T.F_l_word T.b_l_word sc_l_word rfl (Or.inl rfl) (by rfl) T.g_l_word rfl (give_l_word T) B.tb_l_odds rfl (hr.mono (by decide)) (LamX.lamS_by (show LamX.lamSB (defScope s_l_odds) _ = true by decide +kernel)) rfl (fun _ _ _ _ _ => by first | rfl | with_unfolding_all rfl) (fun A outer s H E f z hr => (pe_call (ok_written T) (hr.mono (by decide)) (by rfl) T.g_written T.F_written.kp T.b_written .nil (passes_call (takes_of rfl rfl rfl rfl) (fun _ _ _ _ h => h)) (pa_cons (pv 2) pa_nil)))) (pe_tup (pa_cons pe_str (pa_cons pe_bl pa_nil))) (nomark _)))))))))), enter h fun F xs cs post hE hw => ?_⟩)
  obtain ⟨ns, rfl, rfl, hb, hl, q⟩ := hw
  walk_at "E"
  refine wsp_digit rfl (by decide) (by decide) fun g g0 g1 => ?_
  walk_at "E"
  refine wr_ixA (by walk_at "il") g0 (by show g < ((8 : Nat) : Int); exact g1) fun pd hd => ?_
  have op : pl pd = true ∧ inR 0 (ns.length : Int) pd = false := by
    rw [List.length_map] at hd
    have big : ∀ x : Int, (ns.length : Int) < x → inR 0 (ns.length : Int) (.int x) = false := fun x hx => by
      show (decide ((0 : Int) ≤ x) && decide (x ≤ (ns.length : Int))) = false
      rw [decide_eq_false (show ¬ x ≤ (ns.length : Int) by omega), Bool.and_false]
    simp only [List.mem_cons, List.not_mem_nil, or_false] at hd
    rcases hd with rfl | rfl | rfl | rfl | rfl | rfl | rfl | rfl
    · exact ⟨rfl, rfl⟩
    · exact ⟨rfl, big _ (by omega)⟩
    · exact ⟨rfl, rfl⟩
    · exact ⟨rfl, rfl⟩
    · exact ⟨rfl, rfl⟩
    · exact ⟨rfl, rfl⟩
    · exact ⟨rfl, rfl⟩
    · exact ⟨rfl, big _ (by omega)⟩
  clear hd
  refine wg_name ?_
  refine ws_seq ?_
  generalize hR : (tSeq _ _ : TS) = R
  walk_at "nr4"
  have rest : ∀ (d : D) (cc : List Cell), OddR d → ((∃ a b, cc = [a, b]) ∨ ∃ a b c, cc = [a, b, c]) → WpS K F R ⟨[some (.cel 0), some (.dat (.lst (ns.map D.int))), none, some (.dat d), some (.dat pd)], .drw :: .oth (tabX T.tw_l_odds (lamQ "_law_odds")) :: cc⟩ (KS.fin 2 post) := by
    intro d cc od hcc
    subst hR
    rcases hcc with ⟨x1, x2, rfl⟩ | ⟨x1, x2, x3, rfl⟩
    all_goals
      walk_at "E"
      refine wr_Ii ⟨by decide, by decide, by decide⟩ ?_
      walk_at "E"
      refine wsp_digit rfl (by decide) (by decide) fun g g0 g1 => ?_
      walk_at "E"
      refine wr_ixA (by walk_at "il") g0 (by show g < ((8 : Nat) : Int); exact g1) fun nd hd => ?_
      have on : pl nd = true ∧ inR 0 1000000000000000000000000000000000000000000000000000000000000 nd = false := by
        simp only [List.mem_cons, List.not_mem_nil, or_false] at hd
        rcases hd with rfl | rfl | rfl | rfl | rfl | rfl | rfl | rfl
        · exact ⟨rfl, by decide⟩
        · exact ⟨rfl, rfl⟩
        · exact ⟨rfl, rfl⟩
        · exact ⟨rfl, rfl⟩
        · exact ⟨rfl, rfl⟩
        · exact ⟨rfl, rfl⟩
        · exact ⟨rfl, rfl⟩
        · exact ⟨rfl, by decide⟩
      clear hd
      walk_at "nr4"
      walk_at "E"
      refine we_lamW (j := 1) (fun C => C = T.c_NoBytes) rfl rfl (fun F1 E hE => ?_) (fun F1 f C hC => ?_)
      · walk_at "E"
        refine wsp0 (exc := fun C => C = T.c_NoBytes) (by walk_at "as") (fun C as σ H G hC e => hE C as σ H G hC e) ⟨d, pd, rfl, rfl, od.1, op.1, by have := od.2.2; omega, fun _ => rfl, fun z => absurd z (by rw [od.2.1]; decide), fun ns1 j1 e1 e2 hb1 hj1 => ?_⟩
        exact absurd (rw_is hb1) (by rw [← e1, od.2.1]; decide)
      subst hC
      refine mix_bytes T ?_
      walk_at "E"
      refine wr_neD 1 (by walk_at "od") (by walk_at "od") fine_wb fine_wb (by decide) ?_
      rw [self_wb]
      walk_at "E"
      refine we_lamW (j := 1) (fun C => C = T.c_NoBytes) rfl rfl (fun F1 E hE => ?_) (fun F1 f C hC => ?_)
      · refine we_call1 (x := .dat (.int 0)) (fun _ _ => Rep.int 0) ?_
        walk_at "E"
        refine wsp0 (exc := fun C => C = T.c_NoBytes) (by walk_at "as") (fun C as σ H G hC e => hE C as σ H G hC e) ⟨d, .int 0, rfl, rfl, od.1, rfl, by have := od.2.2; omega, fun _ => rfl, fun z => absurd z (by rw [od.2.1]; decide), fun ns1 j1 e1 e2 hb1 hj1 => ?_⟩
        exact absurd (rw_is hb1) (by rw [← e1, od.2.1]; decide)
      subst hC
      refine mix_bytes T ?_
      walk_at "E"
      refine wr_neD 1 (by walk_at "od") (by walk_at "od") fine_wb fine_wb (by decide) ?_
      rw [self_wb]
      walk_at "E"
      refine we_lamW (j := 1) (fun C => C = T.c_NoPlace) rfl rfl (fun F1 E hE => ?_) (fun F1 f C hC => ?_)
      · walk_at "E"
        refine wsp0 (exc := fun C => C = T.c_NoPlace) (by walk_at "as") (fun C as σ H G hC e => hE C as σ H G hC e) ⟨_, pd, rfl, rfl, by rw [pl]; exact pls_int ns, op.1, ?_, fun z => absurd (rw_is hb) (by rw [z]; decide), fun _ _ => rfl, fun ns1 j1 e1 e2 hb1 hj1 => ?_⟩
        · show ((ns.map D.int).length : Int) ≤ 100000
          rw [List.length_map]; omega
        · have e3 : ns = ns1 := mapI_inj (D.lst.inj e1)
          subst e3 e2
          exact absurd (inR_int (lo := 0) (hi := (ns.length : Int)) (i := j1) (by omega) (by omega)) (by rw [op.2]; decide)
      subst hC
      refine mix_place T ?_
      walk_at "E"
      refine wr_neD 1 (by walk_at "od") (by walk_at "od") fine_wp fine_wp (by decide) ?_
      rw [self_wp]
      walk_at "E"
      refine we_lamW (j := 1) (fun C => C = T.c_NoNumber) rfl rfl (fun F1 E hE => ?_) (fun F1 f C hC => ?_)
      · walk_at "E"
        refine wsp0 (exc := fun C => C = T.c_NoNumber) (by walk_at "as") (fun C as σ H G hC e => hE C as σ H G hC e) ⟨nd, rfl, rfl, on.1, fun n e1 e2 => ?_, fun _ => rfl⟩
        subst e1
        exact absurd (inR_int (lo := 0) (hi := 1000000000000000000000000000000000000000000000000000000000000) (i := n) (by omega) (by omega)) (by rw [on.2]; decide)
      subst hC
      refine mix_number T ?_
      walk_at "E"
      refine wr_eqD 1 (by walk_at "od") (by walk_at "od") fine_wn fine_wn (by decide) ?_
      rw [self_wn]
      exact fin_dat rfl q
  clear hR
  walk_at "E"
  walk_at "cd"
  refine ⟨ns, rfl, rfl, hl, fun d od => ⟨rfl, ?_⟩, fun ds od => ⟨rfl, ?_⟩⟩
  · refine ⟨by show (onlyC 0 [.cel 0, .dat (.lst (ns.map D.int))] || hard d) = true; rw [show onlyC 0 [.cel 0, .dat (.lst (ns.map D.int))] = true from rfl]; rfl, ?_⟩
    walk_at "E"
    exact rest d _ od (.inl ⟨_, _, rfl⟩)
  · refine ⟨by show (onlyC 0 [.cel 0, .dat (.lst (ns.map D.int))] || hards ds) = true; rw [show onlyC 0 [.cel 0, .dat (.lst (ns.map D.int))] = true from rfl]; rfl, ?_⟩
    walk_at "E"
    refine ws_frz (j := 4) rfl ?_
    walk_at "nr4"
    exact rest (.lst ds) _ od (.inr ⟨_, _, _, rfl⟩)
end

local macro_rules | `(tactic| walk_at "cat") => `(tactic| refine wr_cat (by walk_at "il") (by walk_at "il") (by simp only [List.length_append, List.length_map, List.length_cons, List.length_nil]; omega) ?_)
local macro_rules | `(tactic| walk_at "E") => `(tactic| repeat (first
  | (with_reducible refine ws_seq ?_; walk_at "nr2")
  | walk_at "d"
  | refine we_dnew ?_
  | refine ifT rfl ?_
  | refine ifF rfl ?_))
section
variable {P : Program} {w : World} {K : PySem.W.Frag} {mg : Str → Option Value} {base : Heap}
def spLawT (K : PySem.W.Frag) (P1 P2 : Addr) : Sp := fun vs H Q _ => ∃ (a : Addr) (ns : List Int), vs = [.ref a] ∧ SqL K H a (ns.map V.int) ∧ ns.length ≤ 63 ∧ H P1 = some (.tbl #[]) ∧ H P2 = some (.tbl #[]) ∧ ∀ H', Q (.bl true) H'
def wLawT (P1 P2 : Addr) (q1 q2 : Str) : PW0 := fun xs cs post _ => ∃ ns : List Int, xs = [.dat (.scr (ns.map D.int))] ∧ cs = [.oth (tabX P1 q1), .oth (tabX P2 q2)] ∧ ns.length ≤ 63 ∧ post (.dat (.bl true)) [.oth (tabX P1 q1), .oth (tabX P2 q2)]
theorem tab_nil {G H : Hp} {P : Addr} {q : Str} (g : G P = none) (h : H P = some (.tbl #[])) : (∃ o, H P = some o) ∧ CellOk K G H P (.oth (tabX P q)) :=
  ⟨⟨_, h⟩, g, _, h, rfl, _, rfl, True.intro, fun po cv hc => by
    have z : codeAmong po [] = some cv := hc
    simp [codeAmong] at z⟩
theorem law_ofT {P1 P2 : Addr} {q1 q2 : Str} (ne : P1 ≠ P2) {vs : List V} {H : Hp} {Q : VK} {E : XK} (h : spLawT K P1 P2 vs H Q E) : spG K (wLawT P1 P2 q1 q2) vs H Q E := by
  obtain ⟨a, ns, rfl, hs, hl, h1, h2, q⟩ := h
  let G : Hp := fun b => if b = P1 ∨ b = P2 then none else H b
  have g1 : G P1 = none := if_pos (.inl rfl)
  have g2 : G P2 = none := if_pos (.inr rfl)
  have gh : Same G H := fun b o e => by
    have e : (if b = P1 ∨ b = P2 then none else H b) = some o := e
    split at e
    · cases e
    · exact e
  have gk : ∀ b o, H b = some o → (∀ ps, o ≠ .tbl ps) → G b = some o := fun b o e n => by
    show (if b = P1 ∨ b = P2 then none else H b) = some o
    rw [if_neg]
    · exact e
    · rintro (rfl | rfl)
      · rw [h1] at e; exact n _ (Option.some.inj e).symm
      · rw [h2] at e; exact n _ (Option.some.inj e).symm
  have hs' : SqL K G a (ns.map V.int) := by
    rcases hs with (h | ⟨o, h⟩) | h
    · exact .inl (.inl (gk _ _ h fun ps z => by cases z))
    · exact .inl (.inr ⟨o, gk _ _ h fun ps z => by cases z⟩)
    · exact .inr h
  refine ⟨G, [P1, P2], [.dat (.scr (ns.map D.int))], [.oth (tabX P1 q1), .oth (tabX P2 q2)], fun r _ => r = .dat (.bl true), fun _ => False, gh, ⟨rfl, by simp [ne], fun j c b hc hb => ?_⟩, .cons (Rep.scr hs' Reps.ofV) .nil, ⟨ns, rfl, rfl, hl, rfl⟩, ?_, fun _ _ z => z.elim⟩
  · cases j with
    | zero => cases hc; cases hb; exact tab_nil g1 h1
    | succ j =>
      cases j with
      | zero => cases hc; cases hb; exact tab_nil g2 h2
      | succ j => simp at hc
  · intro r cs v H' G' hp _ _ _ _ _ rr
    subst hp
    rw [Rep.blE rr]
    exact q H'
theorem fines_int (n : Nat) (ns : List Int) : fines n (ns.map D.int) = true := by
  induction ns with
  | nil => cases n <;> rfl
  | cons x ns ih => cases n <;> exact ih
theorem noBs_int (ns : List Int) : noBs (ns.map D.int) = true := by
  induction ns with
  | nil => rfl
  | cons x ns ih => exact ih
theorem self_int (ns : List Int) : (!eqD (.lst (ns.map D.int)) (.lst (ns.map D.int))) = false := by
  rw [(eqD_iff (.lst (ns.map D.int)) (.lst (ns.map D.int)) (noBs_int ns) (noBs_int ns)).mpr rfl]; rfl
theorem byts_app {a b : List Int} (h : Byts a) (k : Byts b) : Byts (a ++ b) := fun x m => (List.mem_append.mp m).elim (h x) (k x)
section
variable {F : Fx} {ρ : En} {k : AV → En → Prop} {E : L2.St → XK}
theorem wsp_fig {n : Nat} {x : AV} (hx : x = .dat (.int n)) (hn : (n : Int) ≤ 10 ^ 60) (hk : k (.cel ρ.ce.length) (ρ.add ((figN n).map D.int))) : WpSp K F (spG K wFig) E [x] ρ k := by
  subst hx
  exact wspE (.dat .nil) ⟨n, rfl, rfl, hn, rfl, hk⟩
theorem wsp_written {n : Nat} {C : Addr} (hn : (n : Int) ≤ 10 ^ 60) (hk : k (.cel ρ.ce.length) (ρ.add ((figN n).map D.int))) : WpSp K F (spG K (wWritten C)) E [.dat (.int n)] ρ k :=
  wspE (.dat .nil) ⟨.int n, rfl, rfl, rfl, fun m e _ => by
    have : n = m := by have := D.int.inj e; omega
    subst this
    exact ⟨rfl, hk⟩, fun z => absurd (inR_int (lo := 0) (hi := 10 ^ 60) (i := n) (by omega) hn) (by rw [z]; decide)⟩
theorem cell_self {j : Nat} {c : Cell} (hj : ρ.ce[j]? = some c) : ρ.cell j c = ρ := by
  obtain ⟨sl, ce⟩ := ρ
  have hl : j < ce.length := (List.getElem?_eq_some_iff.mp hj).1
  have he : ce[j] = c := (List.getElem?_eq_some_iff.mp hj).2
  show En.mk sl (ce.set j c) = ⟨sl, ce⟩
  rw [← he, List.set_getElem_self]
theorem wsp_reads {P : Addr} {q : Str} {j i : Nat} {rs : List Int} (hj : ρ.ce[j]? = some (.oth (tabX P q))) (hb : Byts rs) (hi : i ≤ rs.length) (hl : rs.length ≤ 1000) (hk : k (.dat (.bl true)) ρ) : WpSp K F (spG K (wReads P q)) E [.dat (.lst (rs.map D.int)), .dat (.int i)] ρ k :=
  wsp1 hj rfl rfl ⟨rs, i, rfl, rfl, hb, hi, hl, _, rfl, rfl, by rw [cell_self hj]; exact hk⟩
theorem wsp_odds {P : Addr} {q : Str} {j t : Nat} {rs : List Int} (hj : ρ.ce[j]? = some .drw) (ht : ρ.ce[t]? = some (.oth (tabX P q))) (hb : Byts rs) (hl : rs.length ≤ 900) (hk : k (.dat (.bl true)) ρ) : WpSp K F (spG K (wOdds P q)) E [.cel j, .dat (.lst (rs.map D.int))] ρ k :=
  wspO hj ht (by show (decide (j = j) && true) = true; rw [decide_eq_true rfl]; rfl) ⟨rs, rfl, rfl, hb, hl, rfl, _, rfl, hk⟩
end
theorem ok_law (T : Txt K mg) (B : TabsT base mg T) : FnOk P w K mg base CX0 10 T.a_law T.d_law ["_law_script"] (spLawT K T.tw_l_reads T.tw_l_odds) := by
  refine FnOk.imp (sp := spG K (wLawT T.tw_l_reads T.tw_l_odds (lamQ "_law_reads") (lamQ "_law_odds"))) ?_ (fun vs H Q E h => law_ofT B.ne_l_reads_l_odds h)
  refine T.F_law.ok sc_law (fun vs H Q E h => spG_len h fun xs cs post exc ⟨a, e, _⟩ => by rw [e]; rfl) (fun cdv A outer s H vs Q E hr h => ⟨_, (pss_cons (ps_for PassesOwn.never rfl (pi_list (pe_op op_catF (pe_slice sl_list (pv 0) po_none (po_some pe_int)) (pe_lst (pa_cons pe_int (pa_cons pe_int pa_nil))))) (pg_name (i := 1) sc_law.nd rfl (Or.inl rfl))
        (pss_cons (ps_set (i := 2) sc_law.nd rfl (Or.inl rfl) (pe_lst (pa_cons (pv 1) pa_nil)))
      (pss_cons (ps_set (i := 3) sc_law.nd rfl (Or.inl rfl) (pe_call (ok_l_number T) (hr.mono (by decide)) (by rfl) T.g_l_number T.F_l_number.kp T.b_l_number .nil pass0 (pa_cons (pv 2) pa_nil)))
      (pss_cons (ps_set (i := 4) sc_law.nd rfl (Or.inl rfl) (pe_call (ok_written T) (hr.mono (by decide)) (by rfl) T.g_written T.F_written.kp T.b_written .nil passL (pa_cons (pv 3) pa_nil)))
      (pss_cons (ps_if (PW.pt (pw_or (pt_not (pt_val (pe_call (ok_l_plain T) (hr.mono (by decide)) (by rfl) T.g_l_plain T.F_l_plain.kp T.b_l_plain .nil pass0 (pa_cons (pv 4) pa_nil)))) (pw_or1 (pt_cmpR (op_neD hr.units) (pv 4) (pe_call (ok_l_figures T) (hr.mono (by decide)) (by rfl) T.g_l_figures T.F_l_figures.kp T.b_l_figures .nil pass0 (pa_cons (pv 3) pa_nil)) (nomark _))))) (pss_one (ps_ret pe_bl)) pss_nil)
      (pss_cons (ps_expr (pe_bm PySem.F.plainAttrs_list PySem.F.slot_list_append PySem.F.type_list_append mt_append (pv 4) (pa_cons pe_int pa_nil)))
      (pss_cons (ps_set (i := 5) sc_law.nd rfl (Or.inl rfl) (pe_call (ok_l_bytes T) (hr.mono (by decide)) (by rfl) T.g_l_bytes T.F_l_bytes.kp T.b_l_bytes .nil pass0 (pa_cons (pv 2) (pa_cons (pe_call (ok_l_digit T) (hr.mono (by decide)) (by rfl) T.g_l_digit T.F_l_digit.kp T.b_l_digit .nil pass0 (pa_cons (pv 2) (pa_cons pe_int pa_nil))) pa_nil))))
      (pss_cons (ps_set (i := 6) sc_law.nd rfl (Or.inl rfl) (pe_op op_catF (pe_op op_catF (pv 5) (pe_call (ok_l_figures T) (hr.mono (by decide)) (by rfl) T.g_l_figures T.F_l_figures.kp T.b_l_figures .nil pass0 (pa_cons (pv 3) pa_nil))) (pe_call (ok_l_bytes T) (hr.mono (by decide)) (by rfl) T.g_l_bytes T.F_l_bytes.kp T.b_l_bytes .nil pass0 (pa_cons (pv 2) (pa_cons (pe_call (ok_l_digit T) (hr.mono (by decide)) (by rfl) T.g_l_digit T.F_l_digit.kp T.b_l_digit .nil pass0 (pa_cons (pv 2) (pa_cons pe_int pa_nil))) pa_nil)))))
      (pss_cons (ps_if (pt_cmpR (op_neD hr.units) (pe_call (ok_written T) (hr.mono (by decide)) (by rfl) T.g_written T.F_written.kp T.b_written .nil passL (pa_cons (pv 3) pa_nil)) (pe_call (ok_l_figures T) (hr.mono (by decide)) (by rfl) T.g_l_figures T.F_l_figures.kp T.b_l_figures .nil pass0 (pa_cons (pv 3) pa_nil)) (nomark _)) (pss_one (ps_ret pe_bl)) pss_nil)
      (pss_cons (ps_if (pt_cmpR (op_neD hr.units) (pe_call (ok_read_number T) (hr.mono (by decide)) (by rfl) T.g_read_number T.F_read_number.kp T.b1_read_number T.v1_read_number passL (pa_cons (pe_call (ok_l_figures T) (hr.mono (by decide)) (by rfl) T.g_l_figures T.F_l_figures.kp T.b_l_figures .nil pass0 (pa_cons (pv 3) pa_nil)) pa_nil)) (pe_tup (pa_cons (pv 3) (pa_cons (pe_op op_sub (pe_callB call_len_seq (by rfl) T.m_len (by decide +kernel) (pa_cons (pv 4) pa_nil)) pe_int) pa_nil))) (nomark _)) (pss_one (ps_ret pe_bl)) pss_nil)
      (pss_cons (ps_set (i := 7) sc_law.nd rfl (Or.inl rfl) (pe_callTy call_list_of (by rfl) T.m_list (by decide +kernel) (pa_cons (pv 6) pa_nil)))
      (pss_cons (ps_asg (pe_call (ok_l_digit T) (hr.mono (by decide)) (by rfl) T.g_l_digit T.F_l_digit.kp T.b_l_digit .nil pass0 (pa_cons (pv 2) (pa_cons pe_int pa_nil))) (pg_sub (pv 7) (pe_call (ok_l_digit T) (hr.mono (by decide)) (by rfl) T.g_l_digit T.F_l_digit.kp T.b_l_digit .nil pass0 (pa_cons (pv 2) (pa_cons (pe_callB call_len_seq (by rfl) T.m_len (by decide +kernel) (pa_cons (pv 6) pa_nil)) pa_nil))) set_list))
      (pss_cons (ps_set (i := 8) sc_law.nd rfl (Or.inl rfl) (pe_op op_catF (pe_op op_rep (pe_lst (pa_cons (pe_op op_add pe_int (pe_call (ok_l_digit T) (hr.mono (by decide)) (by rfl) T.g_l_digit T.F_l_digit.kp T.b_l_digit .nil pass0 (pa_cons (pv 2) (pa_cons pe_int pa_nil)))) pa_nil)) (pe_op op_add pe_int (pe_call (ok_l_digit T) (hr.mono (by decide)) (by rfl) T.g_l_digit T.F_l_digit.kp T.b_l_digit .nil pass0 (pa_cons (pv 2) (pa_cons pe_int pa_nil))))) (pe_lst (pa_cons (pe_call (ok_l_digit T) (hr.mono (by decide)) (by rfl) T.g_l_digit T.F_l_digit.kp T.b_l_digit .nil pass0 (pa_cons (pv 2) (pa_cons pe_int pa_nil))) pa_nil))))
      (pss_cons (ps_for PassesOwn.never rfl (pi_list (pe_lst (pa_cons (pv 6) (pa_cons (pv 7) (pa_cons (pv 8) (pa_cons (pe_lst pa_nil) pa_nil)))))) (pg_name (i := 9) sc_law.nd rfl (Or.inl rfl))
        (pss_one (ps_for PassesOwn.never rfl (pi_range1 (by rfl) T.m_range (pa_cons (pe_op op_add (pe_callB call_len_seq (by rfl) T.m_len (by decide +kernel) (pa_cons (pv 9) pa_nil)) pe_int) pa_nil)) (pg_name (i := 10) sc_law.nd rfl (Or.inl rfl))
        (pss_one (ps_if (PW.pt (pw_and (PW.pt (pw_or (pt_cmpR (op_neD hr.units) (pv 9) (pv 8) (nomark _)) (pw_or1 (pt_cmpR op_lt (pv 10) pe_int (nomark _))))) (pw_and1 (pt_not (pt_val (pe_call (ok_l_reads T B) (hr.mono (by decide)) (by rfl) T.g_l_reads T.F_l_reads.kp T.b_l_reads .nil pass0 (pa_cons (pv 9) (pa_cons (pv 10) pa_nil)))))))) (pss_one (ps_ret pe_bl)) pss_nil)))))
      (pss_one (ps_if (pt_not (pt_val (pe_call (ok_l_odds T B) (hr.mono (by decide)) (by rfl) T.g_l_odds T.F_l_odds.kp T.b_l_odds .nil pass0 (pa_cons (pv 2) (pa_cons (pv 6) pa_nil))))) (pss_one (ps_ret pe_bl)) pss_nil))))))))))))))))
      (pss_one (ps_ret pe_bl))), enter h fun F xs cs post hE hw => ?_⟩)
  obtain ⟨ns, rfl, rfl, hn, q⟩ := hw
  walk_at "E"
  obtain ⟨X, eX, lX⟩ := cut_ints ns none (some 10)
  rw [eX]
  walk_at "E"
  walk_at "cat"
  walk_at "E"
  walk_at "nr2"
  refine loop_cut (fun ds ρ => ∃ (ms : List Int) (a1 a2 a3 a4 a5 a6 a7 a8 a9 a10 : Option AV), ds = ms.map D.int ∧ ρ = ⟨[some (.dat (.scr (ns.map D.int))), a1, a2, a3, a4, a5, a6, a7, a8, a9, a10], [.oth (tabX T.tw_l_reads (lamQ "_law_reads")), .oth (tabX T.tw_l_odds (lamQ "_law_odds")), .lst (X.map D.int), .lst [.int 0, .int 1], .lst (X.map D.int ++ [.int 0, .int 1])]⟩) ⟨X ++ [0, 1], _, _, _, _, _, _, _, _, _, _, by rw [List.map_append]; rfl, rfl⟩ ?_ ?_
  · rintro ρ ⟨ms, a1, a2, a3, a4, a5, a6, a7, a8, a9, a10, hm, rfl⟩
    refine ⟨.cel rfl, ?_⟩
    walk_at "E"
    exact fin_dat rfl q
  · rintro d ds ρ ⟨ms, a1, a2, a3, a4, a5, a6, a7, a8, a9, a10, hm, rfl⟩
    refine ⟨.cel rfl, ?_⟩
    cases ms with
    | nil => cases hm
    | cons c ms =>
    cases hm
    walk_at "E"
    refine wsp_drw (j := 5) rfl ?_
    walk_at "nr2"
    walk_at "cd"
    refine ⟨rfl, rfl, fun n hn => ⟨rfl, rfl, ?_⟩⟩
    have fs := fig_short n hn
    have fb := fig_byts n
    have fi : ∀ i : Nat, fine (i + 1) (.lst ((figN n).map D.int)) = true := fun i => by rw [fine]; exact fines_int i _
    walk_at "E"
    refine wsp_written hn ?_
    walk_at "E"
    walk_at "c"
    refine ⟨figN n, rfl, rfl, by omega, aft_hard rfl ?_⟩
    walk_at "E"
    refine wsp_fig rfl hn ?_
    walk_at "E"
    refine wr_neD 1 (by walk_at "od") (by walk_at "od") (fi 0) (fi 0) (by decide) ?_
    rw [self_int]
    walk_at "E"
    · rw [List.length_map]; omega
    walk_at "E"
    walk_at "nr4"
    refine wsp_digit rfl (by decide) (by decide) fun m m0 m1 => ?_
    obtain ⟨m, rfl⟩ : ∃ i : Nat, m = i := ⟨m.toNat, by omega⟩
    walk_at "E"
    walk_at "cd"
    refine ⟨m, rfl, rfl, by omega, fun A hA lA => ⟨rfl, rfl, ?_⟩⟩
    walk_at "E"
    refine wsp_fig rfl hn ?_
    walk_at "E"
    walk_at "cat"
    walk_at "E"
    refine wsp_digit rfl (by decide) (by decide) fun r r0 r1 => ?_
    obtain ⟨r, rfl⟩ : ∃ i : Nat, r = i := ⟨r.toNat, by omega⟩
    walk_at "E"
    walk_at "cd"
    refine ⟨r, rfl, rfl, by omega, fun Z hZ lZ => ⟨rfl, rfl, ?_⟩⟩
    walk_at "E"
    walk_at "cat"
    rw [show A.map D.int ++ (figN n).map D.int ++ Z.map D.int = (A ++ figN n ++ Z).map D.int by rw [List.map_append, List.map_append]]
    have hrow : Byts (A ++ figN n ++ Z) := byts_app (byts_app hA fb) hZ
    have lrow : (A ++ figN n ++ Z).length ≤ 41 := by rw [List.length_append, List.length_append]; omega
    have prow : 0 < (A ++ figN n ++ Z).length := by rw [List.length_append, List.length_append, fig_len]; omega
    generalize A ++ figN n ++ Z = row at *
    walk_at "E"
    refine wsp_written hn ?_
    walk_at "E"
    refine wsp_fig rfl hn ?_
    walk_at "E"
    refine wr_neD 1 (by walk_at "od") (by walk_at "od") (fi 0) (fi 0) (by decide) ?_
    rw [self_int]
    walk_at "E"
    refine we_call1 (x := .dat (.int 0)) (fun _ _ => Rep.int 0) ?_
    walk_at "E"
    refine wsp_fig rfl hn ?_
    walk_at "E"
    walk_at "c"
    refine ⟨_, .int 0, rfl, rfl, by rw [pl]; exact pls_int _, rfl, ?_, fun z => absurd (rw_is fb) (by rw [z]; decide), fun _ z => absurd (inR_int (lo := 0) (hi := lnR (.lst ((figN n).map D.int))) (i := 0) (by decide) ?_) (by rw [z]; decide), fun ns1 j1 e1 e2 hb1 hj1 => ?_⟩
    · show (((figN n).map D.int).length : Int) ≤ 100000
      rw [List.length_map]; omega
    · show (0 : Int) ≤ (((figN n).map D.int).length : Int)
      omega
    have e3 : figN n = ns1 := mapI_inj (D.lst.inj e1)
    have e4 : j1 = 0 := by have := D.int.inj e2; omega
    subst e3 e4
    refine ⟨fun z => absurd z ?_, fun a p z => ?_⟩
    · rw [List.drop_zero, show ((0 : Nat) : Int) = 0 from rfl, numA_fig n (by omega)]
      exact fun y => by cases y
    rw [List.drop_zero, show ((0 : Nat) : Int) = 0 from rfl, numA_fig n (by omega)] at z
    cases z
    refine aft_hard rfl ?_
    walk_at "E"
    rw [List.length_append, List.length_map, show (((figN n).length + [D.int 7].length : Nat) : Int) - 1 = ((figN n).length : Int) by simp only [List.length]; omega]
    refine wr_neD 1 (by walk_at "od") (by walk_at "od") rfl rfl (by decide) ?_
    rw [(eqD_iff (.tup [.int n, .int (figN n).length]) (.tup [.int n, .int (figN n).length]) rfl rfl).mpr rfl]
    walk_at "E"
    refine wsp_digit rfl (by decide) (by decide) fun b b0 b1 => ?_
    walk_at "E"
    refine wsp_digit rfl (by rw [List.length_map]; omega) (by rw [List.length_map]; omega) fun l l0 l1 => ?_
    rw [List.length_map] at l1
    obtain ⟨l, rfl⟩ : ∃ i : Nat, l = i := ⟨l.toNat, by omega⟩
    walk_at "E"
    have hi : ixN (row.map D.int).length (l : Int) = some l := by
      unfold ixN
      rw [if_pos (by omega), if_pos (by rw [List.length_map]; omega)]
      rfl
    refine sub_in rfl rfl (by walk_at "fz") rfl hi ?_
    rw [show (row.map D.int).set l (.int b) = (row.set l b).map D.int by rw [List.map_set]]
    have htur : Byts (row.set l b) := fun x mx => by
      rcases List.mem_or_eq_of_mem_set mx with y | y
      · exact hrow x y
      · subst y; exact ⟨b0, by omega⟩
    have ltur : (row.set l b).length ≤ 41 := by rw [List.length_set]; exact lrow
    generalize row.set l b = tur at *
    walk_at "E"
    refine wsp_digit rfl (by decide) (by decide) fun u u0 u1 => ?_
    walk_at "E"
    refine wsp_digit rfl (by decide) (by decide) fun v v0 v1 => ?_
    walk_at "E"
    refine wr_rep (.cel rfl) (by omega) (by omega) (by simp only [List.length]; omega) ?_
    walk_at "E"
    refine wsp_digit rfl (by decide) (by decide) fun y y0 y1 => ?_
    walk_at "E"
    obtain ⟨lng, hlng, llng, elng⟩ : ∃ lng : List Int, Byts lng ∧ lng.length ≤ 60 ∧ (List.replicate (20 + v).toNat [D.int (129 + u)]).flatten ++ [D.int y] = lng.map D.int := by
      refine ⟨List.replicate (20 + v).toNat (129 + u) ++ [y], fun x mx => ?_, ?_, ?_⟩
      · rcases List.mem_append.mp mx with z | z
        · rw [List.eq_of_mem_replicate z]; omega
        · rw [List.mem_singleton] at z; subst z; omega
      · rw [List.length_append, List.length_replicate]; simp only [List.length]; omega
      · rw [List.map_append, List.map_replicate]
        congr 1
        generalize (20 + v).toNat = k
        induction k with
        | zero => rfl
        | succ k ih => rw [List.replicate_succ, List.flatten_cons, ih, List.replicate_succ]; rfl
    refine wr_cat (.cel rfl) (.cel rfl) (by
      have := congrArg List.length elng
      rw [List.length_append, List.length_map] at this
      simp only [List.length] at this ⊢
      omega) ?_
    rw [elng]
    walk_at "E"
    walk_at "nr4"
    generalize Option.map (frzA 21 (D.lst [])) _ = s9
    generalize Option.map (frzA 21 (D.lst [])) _ = s10
    obtain ⟨CE, hCE⟩ : ∃ CE : List Cell, [Cell.oth (tabX T.tw_l_reads (lamQ "_law_reads")), Cell.oth (tabX T.tw_l_odds (lamQ "_law_odds")), Cell.lst (List.map D.int X), Cell.lst [D.int 0, D.int 1], Cell.lst (List.map D.int X ++ [D.int 0, D.int 1]), Cell.drw,
          Cell.lst (List.map D.int (figN n) ++ [D.int 7]), Cell.lst (List.map D.int (figN n)), Cell.lst (List.map D.int A), Cell.lst (List.map D.int (figN n)),
          Cell.lst (List.map D.int A ++ List.map D.int (figN n)), Cell.lst (List.map D.int Z), Cell.gone,
          Cell.lst (List.map D.int (figN n)), Cell.lst (List.map D.int (figN n)), Cell.lst (List.map D.int (figN n)),
          Cell.gone, Cell.lst [D.int (129 + u)], Cell.lst (List.replicate (20 + v).toNat [D.int (129 + u)]).flatten,
          Cell.lst [D.int y], Cell.gone, Cell.gone,
          Cell.lst [D.lst (List.map D.int row), D.lst (List.map D.int tur), D.lst (List.map D.int lng), D.lst []]] = CE := ⟨_, rfl⟩
    rw [hCE]
    have h0 : CE[0]? = some (.oth (tabX T.tw_l_reads (lamQ "_law_reads"))) := by rw [← hCE]; rfl
    have h1 : CE[1]? = some (.oth (tabX T.tw_l_odds (lamQ "_law_odds"))) := by rw [← hCE]; rfl
    have h5 : CE[5]? = some .drw := by rw [← hCE]; rfl
    have h22 : CE[22]? = some (.lst [D.lst (List.map D.int row), D.lst (List.map D.int tur), D.lst (List.map D.int lng), D.lst []]) := by rw [← hCE]; rfl
    have t5 : CE.take 5 = [.oth (tabX T.tw_l_reads (lamQ "_law_reads")), .oth (tabX T.tw_l_odds (lamQ "_law_odds")), .lst (X.map D.int), .lst [.int 0, .int 1], .lst (X.map D.int ++ [.int 0, .int 1])] := by rw [← hCE]; rfl
    have t23 : CE.take 23 = CE := by rw [← hCE]; rfl
    have l23 : CE.length = 23 := by rw [← hCE]; rfl
    clear hCE
    refine loop_by (fun ds ρ => ∃ (x9 x10 : Option AV), ρ = ⟨[some (.dat (.scr (ns.map D.int))), some (.dat (.int c)), some (.cel 5), some (.dat (.int n)), some (.cel 6), some (.cel 8), some (.dat (.lst (row.map D.int))), some (.dat (.lst (tur.map D.int))), some (.dat (.lst (lng.map D.int))), x9, x10], CE⟩ ∧ ∀ d ∈ ds, ∃ rs : List Int, d = .lst (rs.map D.int) ∧ Byts rs ∧ rs.length ≤ 60) ⟨s9, s10, rfl, ?_⟩ ?_ ?_
    · intro d hd
      simp only [List.mem_cons, List.not_mem_nil, or_false] at hd
      rcases hd with rfl | rfl | rfl | rfl
      · exact ⟨row, rfl, hrow, by omega⟩
      · exact ⟨tur, rfl, htur, by omega⟩
      · exact ⟨lng, rfl, hlng, llng⟩
      · exact ⟨[], rfl, (fun _ z => nomatch z), by decide⟩
    · rintro ρ ⟨x9, x10, rfl, _⟩
      refine ⟨.cel h22, ?_⟩
      show WpS K F _ _ _
      walk_at "E"
      refine wsp_odds h5 h1 hrow (by omega) ?_
      walk_at "E"
      exact now ⟨ms, _, _, _, _, _, _, _, _, _, _, rfl, congrArg (En.mk _) t5⟩
    · rintro d ds ρ ⟨x9, x10, rfl, hds⟩
      refine ⟨.cel h22, ?_⟩
      obtain ⟨rs, rfl, hrs, lrs⟩ := hds _ (List.mem_cons_self ..)
      have hds' := fun d m => hds d (List.mem_cons_of_mem _ m)
      have gf : ∀ zs : List Int, fine 1 (.lst (zs.map D.int)) = true := fun zs => by rw [fine]; exact fines_int 0 zs
      walk_at "E"
      rw [List.length_map]
      refine ⟨⟨by omega, by omega⟩, ?_⟩
      rw [show ((rs.length : Int) + 1).toNat = rs.length + 1 by omega]
      show Loop K F CE.length _ _ _ _ _ _
      rw [l23]
      refine loop_rng (fun i ρ => ∃ (x10 : Option AV), ρ = ⟨[some (.dat (.scr (ns.map D.int))), some (.dat (.int c)), some (.cel 5), some (.dat (.int n)), some (.cel 6), some (.cel 8), some (.dat (.lst (row.map D.int))), some (.dat (.lst (tur.map D.int))), some (.dat (.lst (lng.map D.int))), some (.dat (.lst (rs.map D.int))), x10], CE⟩) ⟨x10, rfl⟩ ?_ ?_
      · rintro ρ ⟨x10, rfl⟩
        refine ⟨trivial, ?_⟩
        exact now ⟨_, _, rfl, hds'⟩
      · rintro i ρ hi ⟨x10, rfl⟩
        refine ⟨trivial, ?_⟩
        rw [Int.zero_add]
        refine wg_name ?_
        refine ws_if ?_
        refine WpT.imp (kb := fun b ρ1 => b = false ∧ ρ1 = ⟨[some (.dat (.scr (ns.map D.int))), some (.dat (.int c)), some (.cel 5), some (.dat (.int n)), some (.cel 6), some (.cel 8), some (.dat (.lst (row.map D.int))), some (.dat (.lst (tur.map D.int))), some (.dat (.lst (lng.map D.int))), some (.dat (.lst (rs.map D.int))), some (.dat (.int i))], CE⟩) ?_ ?_
        · walk_at "E"
          refine wr_neD 1 (by walk_at "od") (by walk_at "od") (gf _) (gf _) (by decide) ?_
          cases hne : (!eqD (.lst (rs.map D.int)) (.lst (lng.map D.int))) with
          | true =>
            walk_at "E"
            refine wsp_reads h0 hrs (by omega) (by omega) ?_
            walk_at "E"
            exact ⟨rfl, rfl⟩
          | false =>
            walk_at "E"
            refine ifC (fun c => ?_) (fun c => ?_)
            · walk_at "E"
              refine wsp_reads h0 hrs (by omega) (by omega) ?_
              walk_at "E"
              exact ⟨rfl, rfl⟩
            · exact ⟨rfl, rfl⟩
        · rintro b ρ1 ⟨rfl, rfl⟩
          walk_at "E"
          exact now ⟨_, congrArg (En.mk _) t23⟩
end
theorem all_mk {l : PySem.W.OpenLaw} {w : World} {K : PySem.W.Frag} {h : Heap} {mg : Str → Option Value} {fa : Addr} (X : K.In h) (G : h.Ns mainGlobals mg) (hfa : mg "law" = some (.ref fa))
    {f0 : Addr} {od0 an0 : Option Addr} {sl0 : Array (Option Value)} {oc0 kV0 dc0 pm0 cd0 ct0 : Value}
    (a0 : PySem.W.nsIn K mainGlobals "is_number" = some (some (.ref f0)))
    (l0 : K.lookup f0 = some ⟨oc0, od0, .func (PySem.W.fnOf "is_number" "is_number" (defArgs s_is_number) (defBody s_is_number) (defScope s_is_number) .none kV0 dc0 pm0 an0 cd0 ct0), sl0⟩) (c0 : PySem.W.codeIn K cd0 "is_number" = true) (k0 : PySem.W.keepIn K (.ref f0) = true)
    {f1 : Addr} {od1 an1 : Option Addr} {sl1 : Array (Option Value)} {oc1 kV1 dc1 pm1 cd1 ct1 : Value}
    (a1 : PySem.W.nsIn K mainGlobals "is_whole" = some (some (.ref f1)))
    (l1 : K.lookup f1 = some ⟨oc1, od1, .func (PySem.W.fnOf "is_whole" "is_whole" (defArgs s_is_whole) (defBody s_is_whole) (defScope s_is_whole) .none kV1 dc1 pm1 an1 cd1 ct1), sl1⟩) (c1 : PySem.W.codeIn K cd1 "is_whole" = true) (k1 : PySem.W.keepIn K (.ref f1) = true)
    {f2 : Addr} {od2 an2 : Option Addr} {sl2 : Array (Option Value)} {oc2 kV2 dc2 pm2 cd2 ct2 : Value}
    (a2 : PySem.W.nsIn K mainGlobals "is_bytes" = some (some (.ref f2)))
    (l2 : K.lookup f2 = some ⟨oc2, od2, .func (PySem.W.fnOf "is_bytes" "is_bytes" (defArgs s_is_bytes) (defBody s_is_bytes) (defScope s_is_bytes) .none kV2 dc2 pm2 an2 cd2 ct2), sl2⟩) (c2 : PySem.W.codeIn K cd2 "is_bytes" = true) (k2 : PySem.W.keepIn K (.ref f2) = true)
    {f3 : Addr} {od3 an3 : Option Addr} {sl3 : Array (Option Value)} {oc3 kV3 dc3 pm3 cd3 ct3 : Value}
    (a3 : PySem.W.nsIn K mainGlobals "refuse_no_bytes" = some (some (.ref f3)))
    (l3 : K.lookup f3 = some ⟨oc3, od3, .func (PySem.W.fnOf "refuse_no_bytes" "refuse_no_bytes" (defArgs s_refuse_no_bytes) (defBody s_refuse_no_bytes) (defScope s_refuse_no_bytes) .none kV3 dc3 pm3 an3 cd3 ct3), sl3⟩) (c3 : PySem.W.codeIn K cd3 "refuse_no_bytes" = true) (k3 : PySem.W.keepIn K (.ref f3) = true)
    {f4 : Addr} {od4 an4 : Option Addr} {sl4 : Array (Option Value)} {oc4 kV4 dc4 pm4 cd4 ct4 : Value}
    (a4 : PySem.W.nsIn K mainGlobals "refuse_no_place" = some (some (.ref f4)))
    (l4 : K.lookup f4 = some ⟨oc4, od4, .func (PySem.W.fnOf "refuse_no_place" "refuse_no_place" (defArgs s_refuse_no_place) (defBody s_refuse_no_place) (defScope s_refuse_no_place) .none kV4 dc4 pm4 an4 cd4 ct4), sl4⟩) (c4 : PySem.W.codeIn K cd4 "refuse_no_place" = true) (k4 : PySem.W.keepIn K (.ref f4) = true)
    {f5 : Addr} {od5 an5 : Option Addr} {sl5 : Array (Option Value)} {oc5 kV5 dc5 pm5 cd5 ct5 : Value}
    (a5 : PySem.W.nsIn K mainGlobals "written" = some (some (.ref f5)))
    (l5 : K.lookup f5 = some ⟨oc5, od5, .func (PySem.W.fnOf "written" "written" (defArgs s_written) (defBody s_written) (defScope s_written) .none kV5 dc5 pm5 an5 cd5 ct5), sl5⟩) (c5 : PySem.W.codeIn K cd5 "written" = true) (k5 : PySem.W.keepIn K (.ref f5) = true)
    {f6 : Addr} {od6 an6 : Option Addr} {sl6 : Array (Option Value)} {oc6 kV6 dc6 pm6 cd6 ct6 : Value}
    (a6 : PySem.W.nsIn K mainGlobals "number_at" = some (some (.ref f6)))
    (l6 : K.lookup f6 = some ⟨oc6, od6, .func (PySem.W.fnOf "number_at" "number_at" (defArgs s_number_at) (defBody s_number_at) (defScope s_number_at) .none kV6 dc6 pm6 an6 cd6 ct6), sl6⟩) (c6 : PySem.W.codeIn K cd6 "number_at" = true) (k6 : PySem.W.keepIn K (.ref f6) = true)
    {f7 : Addr} {od7 an7 : Option Addr} {sl7 : Array (Option Value)} {oc7 kV7 dc7 pm7 cd7 ct7 : Value}
    {dT7 : Addr} {do7 : Obj} {dn7 : Nat}
    (a7 : PySem.W.nsIn K mainGlobals "read_number" = some (some (.ref f7)))
    {dt7_0 : Tok}
    (l7 : K.lookup f7 = some ⟨oc7, od7, .func (PySem.W.fnOf "read_number" "read_number" (defArgs s_read_number) (defBody s_read_number) (defScope s_read_number) (.ref dT7) kV7 dc7 pm7 an7 cd7 ct7), sl7⟩) (c7 : PySem.W.codeIn K cd7 "read_number" = true) (k7 : PySem.W.keepIn K (.ref f7) = true)
    (e7 : K.lookup dT7 = some do7) (q7 : do7.data = .seq #[.int 0 dt7_0] dn7)
    {f8 : Addr} {od8 an8 : Option Addr} {sl8 : Array (Option Value)} {oc8 kV8 dc8 pm8 cd8 ct8 : Value}
    (a8 : PySem.W.nsIn K mainGlobals "_law_digit" = some (some (.ref f8)))
    (l8 : K.lookup f8 = some ⟨oc8, od8, .func (PySem.W.fnOf "_law_digit" "_law_digit" (defArgs s_l_digit) (defBody s_l_digit) (defScope s_l_digit) .none kV8 dc8 pm8 an8 cd8 ct8), sl8⟩) (c8 : PySem.W.codeIn K cd8 "_law_digit" = true) (k8 : PySem.W.keepIn K (.ref f8) = true)
    {f9 : Addr} {od9 an9 : Option Addr} {sl9 : Array (Option Value)} {oc9 kV9 dc9 pm9 cd9 ct9 : Value}
    (a9 : PySem.W.nsIn K mainGlobals "_law_figures" = some (some (.ref f9)))
    (l9 : K.lookup f9 = some ⟨oc9, od9, .func (PySem.W.fnOf "_law_figures" "_law_figures" (defArgs s_l_figures) (defBody s_l_figures) (defScope s_l_figures) .none kV9 dc9 pm9 an9 cd9 ct9), sl9⟩) (c9 : PySem.W.codeIn K cd9 "_law_figures" = true) (k9 : PySem.W.keepIn K (.ref f9) = true)
    {f10 : Addr} {od10 an10 : Option Addr} {sl10 : Array (Option Value)} {oc10 kV10 dc10 pm10 cd10 ct10 : Value}
    (a10 : PySem.W.nsIn K mainGlobals "_law_number_at" = some (some (.ref f10)))
    (l10 : K.lookup f10 = some ⟨oc10, od10, .func (PySem.W.fnOf "_law_number_at" "_law_number_at" (defArgs s_l_number_at) (defBody s_l_number_at) (defScope s_l_number_at) .none kV10 dc10 pm10 an10 cd10 ct10), sl10⟩) (c10 : PySem.W.codeIn K cd10 "_law_number_at" = true) (k10 : PySem.W.keepIn K (.ref f10) = true)
    {f11 : Addr} {od11 an11 : Option Addr} {sl11 : Array (Option Value)} {oc11 kV11 dc11 pm11 cd11 ct11 : Value}
    (a11 : PySem.W.nsIn K mainGlobals "_law_odd_row" = some (some (.ref f11)))
    (l11 : K.lookup f11 = some ⟨oc11, od11, .func (PySem.W.fnOf "_law_odd_row" "_law_odd_row" (defArgs s_l_odd_row) (defBody s_l_odd_row) (defScope s_l_odd_row) .none kV11 dc11 pm11 an11 cd11 ct11), sl11⟩) (c11 : PySem.W.codeIn K cd11 "_law_odd_row" = true) (k11 : PySem.W.keepIn K (.ref f11) = true)
    {f12 : Addr} {od12 an12 : Option Addr} {sl12 : Array (Option Value)} {oc12 kV12 dc12 pm12 cd12 ct12 : Value}
    (a12 : PySem.W.nsIn K mainGlobals "_law_bytes" = some (some (.ref f12)))
    (l12 : K.lookup f12 = some ⟨oc12, od12, .func (PySem.W.fnOf "_law_bytes" "_law_bytes" (defArgs s_l_bytes) (defBody s_l_bytes) (defScope s_l_bytes) .none kV12 dc12 pm12 an12 cd12 ct12), sl12⟩) (c12 : PySem.W.codeIn K cd12 "_law_bytes" = true) (k12 : PySem.W.keepIn K (.ref f12) = true)
    {f13 : Addr} {od13 an13 : Option Addr} {sl13 : Array (Option Value)} {oc13 kV13 dc13 pm13 cd13 ct13 : Value}
    (a13 : PySem.W.nsIn K mainGlobals "_law_number" = some (some (.ref f13)))
    (l13 : K.lookup f13 = some ⟨oc13, od13, .func (PySem.W.fnOf "_law_number" "_law_number" (defArgs s_l_number) (defBody s_l_number) (defScope s_l_number) .none kV13 dc13 pm13 an13 cd13 ct13), sl13⟩) (c13 : PySem.W.codeIn K cd13 "_law_number" = true) (k13 : PySem.W.keepIn K (.ref f13) = true)
    {f14 : Addr} {od14 an14 : Option Addr} {sl14 : Array (Option Value)} {oc14 kV14 dc14 pm14 cd14 ct14 : Value}
    (a14 : PySem.W.nsIn K mainGlobals "_law_word" = some (some (.ref f14)))
    (l14 : K.lookup f14 = some ⟨oc14, od14, .func (PySem.W.fnOf "_law_word" "_law_word" (defArgs s_l_word) (defBody s_l_word) (defScope s_l_word) .none kV14 dc14 pm14 an14 cd14 ct14), sl14⟩) (c14 : PySem.W.codeIn K cd14 "_law_word" = true) (k14 : PySem.W.keepIn K (.ref f14) = true)
    {f15 : Addr} {od15 an15 : Option Addr} {sl15 : Array (Option Value)} {oc15 kV15 dc15 pm15 cd15 ct15 : Value}
    (a15 : PySem.W.nsIn K mainGlobals "_law_plain" = some (some (.ref f15)))
    (l15 : K.lookup f15 = some ⟨oc15, od15, .func (PySem.W.fnOf "_law_plain" "_law_plain" (defArgs s_l_plain) (defBody s_l_plain) (defScope s_l_plain) .none kV15 dc15 pm15 an15 cd15 ct15), sl15⟩) (c15 : PySem.W.codeIn K cd15 "_law_plain" = true) (k15 : PySem.W.keepIn K (.ref f15) = true)
    {f16 : Addr} {od16 an16 : Option Addr} {sl16 : Array (Option Value)} {oc16 kV16 dc16 pm16 ct16 : Value} {cw16 tw16 : Addr} {oo16 : Obj}
    (a16 : PySem.W.nsIn K mainGlobals "_law_reads" = some (some (.ref f16)))
    (l16 : K.lookup f16 = some ⟨oc16, od16, .func (PySem.W.fnOf "_law_reads" "_law_reads" (defArgs s_l_reads) (defBody s_l_reads) (defScope s_l_reads) .none kV16 dc16 pm16 an16 (.ref cw16) ct16), sl16⟩) (c16 : PySem.W.codeIn K (.ref cw16) "_law_reads" = true) (k16 : PySem.W.keepIn K (.ref f16) = true)
    {f17 : Addr} {od17 an17 : Option Addr} {sl17 : Array (Option Value)} {oc17 kV17 dc17 pm17 ct17 : Value} {cw17 tw17 : Addr} {oo17 : Obj}
    (a17 : PySem.W.nsIn K mainGlobals "_law_odds" = some (some (.ref f17)))
    (l17 : K.lookup f17 = some ⟨oc17, od17, .func (PySem.W.fnOf "_law_odds" "_law_odds" (defArgs s_l_odds) (defBody s_l_odds) (defScope s_l_odds) .none kV17 dc17 pm17 an17 (.ref cw17) ct17), sl17⟩) (c17 : PySem.W.codeIn K (.ref cw17) "_law_odds" = true) (k17 : PySem.W.keepIn K (.ref f17) = true)
    {f18 : Addr} {od18 an18 : Option Addr} {sl18 : Array (Option Value)} {oc18 kV18 dc18 pm18 cd18 ct18 : Value}
    (a18 : PySem.W.nsIn K mainGlobals "law" = some (some (.ref f18)))
    (l18 : K.lookup f18 = some ⟨oc18, od18, .func (PySem.W.fnOf "law" "law" (defArgs s_law) (defBody s_law) (defScope s_law) .none kV18 dc18 pm18 an18 cd18 ct18), sl18⟩) (c18 : PySem.W.codeIn K cd18 "law" = true) (k18 : PySem.W.keepIn K (.ref f18) = true)
    (z_all : PySem.W.nsIn K mainGlobals "all" = some none)
    (z_bool : PySem.W.nsIn K mainGlobals "bool" = some none)
    (z_int : PySem.W.nsIn K mainGlobals "int" = some none)
    (z_isinstance : PySem.W.nsIn K mainGlobals "isinstance" = some none)
    (z_len : PySem.W.nsIn K mainGlobals "len" = some none)
    (z_list : PySem.W.nsIn K mainGlobals "list" = some none)
    (z_range : PySem.W.nsIn K mainGlobals "range" = some none)
    (z_tuple : PySem.W.nsIn K mainGlobals "tuple" = some none)
    {ct_GREATEST_NUMBER : Tok} (g_GREATEST_NUMBER : PySem.W.nsIn K mainGlobals "GREATEST_NUMBER" = some (some (.int 1000000000000000000000000000000000000000000000000000000000000 ct_GREATEST_NUMBER)))
    {ct_BASE : Tok} (g_BASE : PySem.W.nsIn K mainGlobals "BASE" = some (some (.int 128 ct_BASE)))
    {C_ScrollError : Addr} (g_ScrollError : PySem.W.nsIn K mainGlobals "ScrollError" = some (some (.ref C_ScrollError)))
    {C_NoNumber : Addr} (g_NoNumber : PySem.W.nsIn K mainGlobals "NoNumber" = some (some (.ref C_NoNumber)))
    (x_NoNumber : PySem.W.excIn K C_NoNumber [.type "ValueError", .type "Exception", .type "BaseException", .type "object"] "ValueError.__new__" = true) (kc_NoNumber : PySem.W.keepIn K (.ref C_NoNumber) = true) (bb_NoNumber : PySem.W.subIn K (.ref C_NoNumber) (.type "BaseException") = some true) (t_NoNumber : PySem.W.typeIn K (.ref C_NoNumber) = some (.type "type"))
    (xa_NoNumber : PySem.W.findIn K (.ref C_NoNumber) "__getattribute__" = some (some (.builtin "BaseException.__getattribute__"))) (xb_NoNumber : PySem.W.findIn K (.ref C_NoNumber) "__getattr__" = some none) (xc_NoNumber : PySem.W.hasDictIn K C_NoNumber = true) (xd_NoNumber : PySem.W.findIn K (.ref C_NoNumber) "__class__" = some (some (.builtin "object.__class__")))
    (xe_NoNumber : PySem.W.specialIn K (.builtin "object.__class__") "__get__" = some (some (.builtin "getset_descriptor.__get__"))) (xf_NoNumber : PySem.W.takesIn K (.builtin "object.__class__") = some true) (xg_NoNumber : PySem.W.mroIn K C_NoNumber (.type "object") = some true)
    {C_NoBytes : Addr} (g_NoBytes : PySem.W.nsIn K mainGlobals "NoBytes" = some (some (.ref C_NoBytes)))
    (x_NoBytes : PySem.W.excIn K C_NoBytes [.type "ValueError", .type "Exception", .type "BaseException", .type "object"] "ValueError.__new__" = true) (kc_NoBytes : PySem.W.keepIn K (.ref C_NoBytes) = true) (bb_NoBytes : PySem.W.subIn K (.ref C_NoBytes) (.type "BaseException") = some true) (t_NoBytes : PySem.W.typeIn K (.ref C_NoBytes) = some (.type "type"))
    (xa_NoBytes : PySem.W.findIn K (.ref C_NoBytes) "__getattribute__" = some (some (.builtin "BaseException.__getattribute__"))) (xb_NoBytes : PySem.W.findIn K (.ref C_NoBytes) "__getattr__" = some none) (xc_NoBytes : PySem.W.hasDictIn K C_NoBytes = true) (xd_NoBytes : PySem.W.findIn K (.ref C_NoBytes) "__class__" = some (some (.builtin "object.__class__")))
    (xe_NoBytes : PySem.W.specialIn K (.builtin "object.__class__") "__get__" = some (some (.builtin "getset_descriptor.__get__"))) (xf_NoBytes : PySem.W.takesIn K (.builtin "object.__class__") = some true) (xg_NoBytes : PySem.W.mroIn K C_NoBytes (.type "object") = some true)
    {C_NoPlace : Addr} (g_NoPlace : PySem.W.nsIn K mainGlobals "NoPlace" = some (some (.ref C_NoPlace)))
    (x_NoPlace : PySem.W.excIn K C_NoPlace [.type "ValueError", .type "Exception", .type "BaseException", .type "object"] "ValueError.__new__" = true) (kc_NoPlace : PySem.W.keepIn K (.ref C_NoPlace) = true) (bb_NoPlace : PySem.W.subIn K (.ref C_NoPlace) (.type "BaseException") = some true) (t_NoPlace : PySem.W.typeIn K (.ref C_NoPlace) = some (.type "type"))
    (xa_NoPlace : PySem.W.findIn K (.ref C_NoPlace) "__getattribute__" = some (some (.builtin "BaseException.__getattribute__"))) (xb_NoPlace : PySem.W.findIn K (.ref C_NoPlace) "__getattr__" = some none) (xc_NoPlace : PySem.W.hasDictIn K C_NoPlace = true) (xd_NoPlace : PySem.W.findIn K (.ref C_NoPlace) "__class__" = some (some (.builtin "object.__class__")))
    (xe_NoPlace : PySem.W.specialIn K (.builtin "object.__class__") "__get__" = some (some (.builtin "getset_descriptor.__get__"))) (xf_NoPlace : PySem.W.takesIn K (.builtin "object.__class__") = some true) (xg_NoPlace : PySem.W.mroIn K C_NoPlace (.type "object") = some true)
    (sb_NoBytes_NoBytes : PySem.W.subIn K (.ref C_NoBytes) (.ref C_NoBytes) = some true) (bs_NoBytes_NoBytes : PySem.W.subIn K (.ref C_NoBytes) (.type "BaseException") = some true) (ts_NoBytes_NoBytes : PySem.W.typeIn K (.ref C_NoBytes) = some (.type "type")) (is_NoBytes_NoBytes : PySem.W.isClsIn K C_NoBytes = true)
    (sb_NoNumber_NoBytes : PySem.W.subIn K (.ref C_NoNumber) (.ref C_NoBytes) = some false) (bs_NoNumber_NoBytes : PySem.W.subIn K (.ref C_NoBytes) (.type "BaseException") = some true) (ts_NoNumber_NoBytes : PySem.W.typeIn K (.ref C_NoBytes) = some (.type "type")) (is_NoNumber_NoBytes : PySem.W.isClsIn K C_NoBytes = true)
    (sb_NoPlace_NoBytes : PySem.W.subIn K (.ref C_NoPlace) (.ref C_NoBytes) = some false) (bs_NoPlace_NoBytes : PySem.W.subIn K (.ref C_NoBytes) (.type "BaseException") = some true) (ts_NoPlace_NoBytes : PySem.W.typeIn K (.ref C_NoBytes) = some (.type "type")) (is_NoPlace_NoBytes : PySem.W.isClsIn K C_NoBytes = true)
    (sb_NoBytes_NoPlace : PySem.W.subIn K (.ref C_NoBytes) (.ref C_NoPlace) = some false) (bs_NoBytes_NoPlace : PySem.W.subIn K (.ref C_NoPlace) (.type "BaseException") = some true) (ts_NoBytes_NoPlace : PySem.W.typeIn K (.ref C_NoPlace) = some (.type "type")) (is_NoBytes_NoPlace : PySem.W.isClsIn K C_NoPlace = true)
    (sb_NoNumber_NoPlace : PySem.W.subIn K (.ref C_NoNumber) (.ref C_NoPlace) = some false) (bs_NoNumber_NoPlace : PySem.W.subIn K (.ref C_NoPlace) (.type "BaseException") = some true) (ts_NoNumber_NoPlace : PySem.W.typeIn K (.ref C_NoPlace) = some (.type "type")) (is_NoNumber_NoPlace : PySem.W.isClsIn K C_NoPlace = true)
    (sb_NoPlace_NoPlace : PySem.W.subIn K (.ref C_NoPlace) (.ref C_NoPlace) = some true) (bs_NoPlace_NoPlace : PySem.W.subIn K (.ref C_NoPlace) (.type "BaseException") = some true) (ts_NoPlace_NoPlace : PySem.W.typeIn K (.ref C_NoPlace) = some (.type "type")) (is_NoPlace_NoPlace : PySem.W.isClsIn K C_NoPlace = true)
    (sb_NoBytes_NoNumber : PySem.W.subIn K (.ref C_NoBytes) (.ref C_NoNumber) = some false) (bs_NoBytes_NoNumber : PySem.W.subIn K (.ref C_NoNumber) (.type "BaseException") = some true) (ts_NoBytes_NoNumber : PySem.W.typeIn K (.ref C_NoNumber) = some (.type "type")) (is_NoBytes_NoNumber : PySem.W.isClsIn K C_NoNumber = true)
    (sb_NoNumber_NoNumber : PySem.W.subIn K (.ref C_NoNumber) (.ref C_NoNumber) = some true) (bs_NoNumber_NoNumber : PySem.W.subIn K (.ref C_NoNumber) (.type "BaseException") = some true) (ts_NoNumber_NoNumber : PySem.W.typeIn K (.ref C_NoNumber) = some (.type "type")) (is_NoNumber_NoNumber : PySem.W.isClsIn K C_NoNumber = true)
    (sb_NoPlace_NoNumber : PySem.W.subIn K (.ref C_NoPlace) (.ref C_NoNumber) = some false) (bs_NoPlace_NoNumber : PySem.W.subIn K (.ref C_NoNumber) (.type "BaseException") = some true) (ts_NoPlace_NoNumber : PySem.W.typeIn K (.ref C_NoNumber) = some (.type "type")) (is_NoPlace_NoNumber : PySem.W.isClsIn K C_NoNumber = true)
    (sb_NoBytes_ScrollError : PySem.W.subIn K (.ref C_NoBytes) (.ref C_ScrollError) = some true) (bs_NoBytes_ScrollError : PySem.W.subIn K (.ref C_ScrollError) (.type "BaseException") = some true) (ts_NoBytes_ScrollError : PySem.W.typeIn K (.ref C_ScrollError) = some (.type "type")) (is_NoBytes_ScrollError : PySem.W.isClsIn K C_ScrollError = true)
    (sb_NoNumber_ScrollError : PySem.W.subIn K (.ref C_NoNumber) (.ref C_ScrollError) = some true) (bs_NoNumber_ScrollError : PySem.W.subIn K (.ref C_ScrollError) (.type "BaseException") = some true) (ts_NoNumber_ScrollError : PySem.W.typeIn K (.ref C_ScrollError) = some (.type "type")) (is_NoNumber_ScrollError : PySem.W.isClsIn K C_ScrollError = true)
    (sb_NoPlace_ScrollError : PySem.W.subIn K (.ref C_NoPlace) (.ref C_ScrollError) = some true) (bs_NoPlace_ScrollError : PySem.W.subIn K (.ref C_ScrollError) (.type "BaseException") = some true) (ts_NoPlace_ScrollError : PySem.W.typeIn K (.ref C_ScrollError) = some (.type "type")) (is_NoPlace_ScrollError : PySem.W.isClsIn K C_ScrollError = true)
    (io_NoBytes_NoNumber : PySem.W.kitOne K (.ref C_NoBytes) (.ref C_NoNumber) = some false)
    (io_NoNumber_NoNumber : PySem.W.kitOne K (.ref C_NoNumber) (.ref C_NoNumber) = some true)
    (io_NoPlace_NoNumber : PySem.W.kitOne K (.ref C_NoPlace) (.ref C_NoNumber) = some false)
    (io_NoBytes_NoPlace : PySem.W.kitOne K (.ref C_NoBytes) (.ref C_NoPlace) = some false)
    (io_NoNumber_NoPlace : PySem.W.kitOne K (.ref C_NoNumber) (.ref C_NoPlace) = some false)
    (io_NoPlace_NoPlace : PySem.W.kitOne K (.ref C_NoPlace) (.ref C_NoPlace) = some true)
    (io_NoBytes_NoBytes : PySem.W.kitOne K (.ref C_NoBytes) (.ref C_NoBytes) = some true)
    (io_NoNumber_NoBytes : PySem.W.kitOne K (.ref C_NoNumber) (.ref C_NoBytes) = some false)
    (io_NoPlace_NoBytes : PySem.W.kitOne K (.ref C_NoPlace) (.ref C_NoBytes) = some false)
    (lw16 : K.lookup cw16 = some oo16) (tv16 : tabO oo16 = some tw16) (hd16 : PySem.W.codeHdIn K cw16 tw16 = true) (nt16 : K.lookup tw16 = none) (gt16 : h.get? tw16 = some { cls := .none, data := .fields #[] })
    (lw17 : K.lookup cw17 = some oo17) (tv17 : tabO oo17 = some tw17) (hd17 : PySem.W.codeHdIn K cw17 tw17 = true) (nt17 : K.lookup tw17 = none) (gt17 : h.get? tw17 = some { cls := .none, data := .fields #[] })
    (nn16_17 : tw16 ≠ tw17)
    : LamX.LawAtS l w K CX0 10 63 "_law_script" mg fa h := by
  have e := hfa.symm.trans (PySem.W.mg_of X G a18)
  cases e
  have F0 := fun_mk (st := s_is_number) l0 c0 k0
  have F1 := fun_mk (st := s_is_whole) l1 c1 k1
  have F2 := fun_mk (st := s_is_bytes) l2 c2 k2
  have F3 := fun_mk (st := s_refuse_no_bytes) l3 c3 k3
  have F4 := fun_mk (st := s_refuse_no_place) l4 c4 k4
  have F5 := fun_mk (st := s_written) l5 c5 k5
  have F6 := fun_mk (st := s_number_at) l6 c6 k6
  have F7 : FunD K "read_number" "read_number" (defArgs s_read_number) (defBody s_read_number) (defScope s_read_number) [V.int 0] [] f7 _ := ⟨⟨_, _, _, _, _, _, _, _, _, _, rfl, l7, c7, .inr ⟨(fun z => nomatch z), _, _, [.int 0 dt7_0], _, rfl, e7, q7, .cons ⟨_, rfl⟩ (.nil)⟩, .inl rfl⟩, k7⟩
  have F8 := fun_mk (st := s_l_digit) l8 c8 k8
  have F9 := fun_mk (st := s_l_figures) l9 c9 k9
  have F10 := fun_mk (st := s_l_number_at) l10 c10 k10
  have F11 := fun_mk (st := s_l_odd_row) l11 c11 k11
  have F12 := fun_mk (st := s_l_bytes) l12 c12 k12
  have F13 := fun_mk (st := s_l_number) l13 c13 k13
  have F14 := fun_mk (st := s_l_word) l14 c14 k14
  have F15 := fun_mk (st := s_l_plain) l15 c15 k15
  have F16 := fun_mk (st := s_l_reads) l16 c16 k16
  have F17 := fun_mk (st := s_l_odds) l17 c17 k17
  have F18 := fun_mk (st := s_law) l18 c18 k18
  obtain ⟨ds7_1, v7_1, b7_1⟩ := F7.binds1 (ps := ["row", "at"]) 1 0 (fun z => nomatch z) rfl (fun T kV doc pm an cdv ct us its h1 h2 => match us, its, h1, h2 with | [_], [_], _, _ => ⟨_, rfl, rfl⟩)
  have b0 := F0.binds (ps := ["thing"]) fun _ _ _ _ _ _ us hl => match us, hl with | [_], _ => rfl
  have b1 := F1.binds (ps := ["thing", "low", "high"]) fun _ _ _ _ _ _ us hl => match us, hl with | [_, _, _], _ => rfl
  have b2 := F2.binds (ps := ["thing"]) fun _ _ _ _ _ _ us hl => match us, hl with | [_], _ => rfl
  have b3 := F3.binds (ps := ["row"]) fun _ _ _ _ _ _ us hl => match us, hl with | [_], _ => rfl
  have b4 := F4.binds (ps := ["row", "at"]) fun _ _ _ _ _ _ us hl => match us, hl with | [_, _], _ => rfl
  have b5 := F5.binds (ps := ["number"]) fun _ _ _ _ _ _ us hl => match us, hl with | [_], _ => rfl
  have b6 := F6.binds (ps := ["row", "at"]) fun _ _ _ _ _ _ us hl => match us, hl with | [_, _], _ => rfl
  have b7 : Binds K _ ["row", "at"] [] := bindsAll (F := F7) (ps := ["row", "at"]) (fun T kV doc pm an cdv ct us its h1 h2 => match us, its, h1, h2 with | [_, _], [_], _, _ => ⟨_, rfl, rfl⟩) (fun z => nomatch z)
  have b8 := F8.binds (ps := ["_law_state", "_law_base"]) fun _ _ _ _ _ _ us hl => match us, hl with | [_, _], _ => rfl
  have b9 := F9.binds (ps := ["_law_number_here"]) fun _ _ _ _ _ _ us hl => match us, hl with | [_], _ => rfl
  have b10 := F10.binds (ps := ["_law_row", "_law_at"]) fun _ _ _ _ _ _ us hl => match us, hl with | [_, _], _ => rfl
  have b11 := F11.binds (ps := ["_law_state", "_law_row"]) fun _ _ _ _ _ _ us hl => match us, hl with | [_, _], _ => rfl
  have b12 := F12.binds (ps := ["_law_state", "_law_many"]) fun _ _ _ _ _ _ us hl => match us, hl with | [_, _], _ => rfl
  have b13 := F13.binds (ps := ["_law_state"]) fun _ _ _ _ _ _ us hl => match us, hl with | [_], _ => rfl
  have b14 := F14.binds (ps := ["_law_ask"]) fun _ _ _ _ _ _ us hl => match us, hl with | [_], _ => rfl
  have b15 := F15.binds (ps := ["_law_row"]) fun _ _ _ _ _ _ us hl => match us, hl with | [_], _ => rfl
  have b16 := F16.binds (ps := ["_law_row", "_law_at"]) fun _ _ _ _ _ _ us hl => match us, hl with | [_, _], _ => rfl
  have b17 := F17.binds (ps := ["_law_state", "_law_row"]) fun _ _ _ _ _ _ us hl => match us, hl with | [_, _], _ => rfl
  have b18 := F18.binds (ps := ["_law_script"]) fun _ _ _ _ _ _ us hl => match us, hl with | [_], _ => rfl
  exact ⟨_, [(cw16, tw16), (cw17, tw17)], spLawT K tw16 tw17, (List.forall_mem_cons.mpr ⟨gt16, List.forall_mem_cons.mpr ⟨gt17, fun _ z => nomatch z⟩⟩), (List.forall_mem_cons.mpr ⟨nt16, List.forall_mem_cons.mpr ⟨nt17, fun _ z => nomatch z⟩⟩), (List.forall_mem_cons.mpr ⟨PySem.W.codeHd_of_K X hd16, List.forall_mem_cons.mpr ⟨PySem.W.codeHd_of_K X hd17, fun _ z => nomatch z⟩⟩), fun s v => .of_eq rfl, fun H a ns hl _ hT hS => ⟨a, ns, rfl, hS, hl, hT _ (List.mem_cons_self ..), hT _ (List.mem_cons_of_mem _ (List.mem_cons_self ..)), fun _ => rfl⟩, fun base _ _ tb => ok_law { a_is_number := _, d_is_number := _, F_is_number := F0, b_is_number := b0, g_is_number := PySem.W.mg_of X G a0, a_is_whole := _, d_is_whole := _, F_is_whole := F1, b_is_whole := b1, g_is_whole := PySem.W.mg_of X G a1, a_is_bytes := _, d_is_bytes := _, F_is_bytes := F2, b_is_bytes := b2, g_is_bytes := PySem.W.mg_of X G a2, a_refuse_no_bytes := _, d_refuse_no_bytes := _, F_refuse_no_bytes := F3, b_refuse_no_bytes := b3, g_refuse_no_bytes := PySem.W.mg_of X G a3, a_refuse_no_place := _, d_refuse_no_place := _, F_refuse_no_place := F4, b_refuse_no_place := b4, g_refuse_no_place := PySem.W.mg_of X G a4, a_written := _, d_written := _, F_written := F5, b_written := b5, g_written := PySem.W.mg_of X G a5, a_number_at := _, d_number_at := _, F_number_at := F6, b_number_at := b6, g_number_at := PySem.W.mg_of X G a6, a_read_number := _, d_read_number := _, F_read_number := F7, b_read_number := b7, g_read_number := PySem.W.mg_of X G a7, a_l_digit := _, d_l_digit := _, F_l_digit := F8, b_l_digit := b8, g_l_digit := PySem.W.mg_of X G a8, a_l_figures := _, d_l_figures := _, F_l_figures := F9, b_l_figures := b9, g_l_figures := PySem.W.mg_of X G a9, a_l_number_at := _, d_l_number_at := _, F_l_number_at := F10, b_l_number_at := b10, g_l_number_at := PySem.W.mg_of X G a10, a_l_odd_row := _, d_l_odd_row := _, F_l_odd_row := F11, b_l_odd_row := b11, g_l_odd_row := PySem.W.mg_of X G a11, a_l_bytes := _, d_l_bytes := _, F_l_bytes := F12, b_l_bytes := b12, g_l_bytes := PySem.W.mg_of X G a12, a_l_number := _, d_l_number := _, F_l_number := F13, b_l_number := b13, g_l_number := PySem.W.mg_of X G a13, a_l_word := _, d_l_word := _, F_l_word := F14, b_l_word := b14, g_l_word := PySem.W.mg_of X G a14, a_l_plain := _, d_l_plain := _, F_l_plain := F15, b_l_plain := b15, g_l_plain := PySem.W.mg_of X G a15, a_l_reads := _, d_l_reads := _, F_l_reads := F16, b_l_reads := b16, g_l_reads := PySem.W.mg_of X G a16, a_l_odds := _, d_l_odds := _, F_l_odds := F17, b_l_odds := b17, g_l_odds := PySem.W.mg_of X G a17, a_law := _, d_law := _, F_law := F18, b_law := b18, g_law := PySem.W.mg_of X G a18, ds1_read_number := ds7_1, v1_read_number := v7_1, b1_read_number := b7_1, m_all := PySem.W.mg_none_of X G z_all, m_bool := PySem.W.mg_none_of X G z_bool, m_int := PySem.W.mg_none_of X G z_int, m_isinstance := PySem.W.mg_none_of X G z_isinstance, m_len := PySem.W.mg_none_of X G z_len, m_list := PySem.W.mg_none_of X G z_list, m_range := PySem.W.mg_none_of X G z_range, m_tuple := PySem.W.mg_none_of X G z_tuple, ct_GREATEST_NUMBER := ct_GREATEST_NUMBER, g_GREATEST_NUMBER := PySem.W.mg_of X G g_GREATEST_NUMBER, ct_BASE := ct_BASE, g_BASE := PySem.W.mg_of X G g_BASE, c_ScrollError := C_ScrollError, g_ScrollError := PySem.W.mg_of X G g_ScrollError, c_NoNumber := C_NoNumber, g_NoNumber := PySem.W.mg_of X G g_NoNumber, x_NoNumber := x_NoNumber, k_NoNumber := kc_NoNumber, bb_NoNumber := bb_NoNumber, t_NoNumber := t_NoNumber, xc_NoNumber := ⟨xa_NoNumber, xb_NoNumber, bb_NoNumber, xc_NoNumber, xd_NoNumber, xe_NoNumber, xf_NoNumber, xg_NoNumber⟩, c_NoBytes := C_NoBytes, g_NoBytes := PySem.W.mg_of X G g_NoBytes, x_NoBytes := x_NoBytes, k_NoBytes := kc_NoBytes, bb_NoBytes := bb_NoBytes, t_NoBytes := t_NoBytes, xc_NoBytes := ⟨xa_NoBytes, xb_NoBytes, bb_NoBytes, xc_NoBytes, xd_NoBytes, xe_NoBytes, xf_NoBytes, xg_NoBytes⟩, c_NoPlace := C_NoPlace, g_NoPlace := PySem.W.mg_of X G g_NoPlace, x_NoPlace := x_NoPlace, k_NoPlace := kc_NoPlace, bb_NoPlace := bb_NoPlace, t_NoPlace := t_NoPlace, xc_NoPlace := ⟨xa_NoPlace, xb_NoPlace, bb_NoPlace, xc_NoPlace, xd_NoPlace, xe_NoPlace, xf_NoPlace, xg_NoPlace⟩, em_NoBytes_NoBytes := exm_by bs_NoBytes_NoBytes is_NoBytes_NoBytes ts_NoBytes_NoBytes sb_NoBytes_NoBytes, em_NoNumber_NoBytes := exm_by bs_NoNumber_NoBytes is_NoNumber_NoBytes ts_NoNumber_NoBytes sb_NoNumber_NoBytes, em_NoPlace_NoBytes := exm_by bs_NoPlace_NoBytes is_NoPlace_NoBytes ts_NoPlace_NoBytes sb_NoPlace_NoBytes, em_NoBytes_NoPlace := exm_by bs_NoBytes_NoPlace is_NoBytes_NoPlace ts_NoBytes_NoPlace sb_NoBytes_NoPlace, em_NoNumber_NoPlace := exm_by bs_NoNumber_NoPlace is_NoNumber_NoPlace ts_NoNumber_NoPlace sb_NoNumber_NoPlace, em_NoPlace_NoPlace := exm_by bs_NoPlace_NoPlace is_NoPlace_NoPlace ts_NoPlace_NoPlace sb_NoPlace_NoPlace, em_NoBytes_NoNumber := exm_by bs_NoBytes_NoNumber is_NoBytes_NoNumber ts_NoBytes_NoNumber sb_NoBytes_NoNumber, em_NoNumber_NoNumber := exm_by bs_NoNumber_NoNumber is_NoNumber_NoNumber ts_NoNumber_NoNumber sb_NoNumber_NoNumber, em_NoPlace_NoNumber := exm_by bs_NoPlace_NoNumber is_NoPlace_NoNumber ts_NoPlace_NoNumber sb_NoPlace_NoNumber, em_NoBytes_ScrollError := exm_by bs_NoBytes_ScrollError is_NoBytes_ScrollError ts_NoBytes_ScrollError sb_NoBytes_ScrollError, em_NoNumber_ScrollError := exm_by bs_NoNumber_ScrollError is_NoNumber_ScrollError ts_NoNumber_ScrollError sb_NoNumber_ScrollError, em_NoPlace_ScrollError := exm_by bs_NoPlace_ScrollError is_NoPlace_ScrollError ts_NoPlace_ScrollError sb_NoPlace_ScrollError, io_NoBytes_NoNumber := io_NoBytes_NoNumber, io_NoNumber_NoNumber := io_NoNumber_NoNumber, io_NoPlace_NoNumber := io_NoPlace_NoNumber, io_NoBytes_NoPlace := io_NoBytes_NoPlace, io_NoNumber_NoPlace := io_NoNumber_NoPlace, io_NoPlace_NoPlace := io_NoPlace_NoPlace, io_NoBytes_NoBytes := io_NoBytes_NoBytes, io_NoNumber_NoBytes := io_NoNumber_NoBytes, io_NoPlace_NoBytes := io_NoPlace_NoBytes, cw_l_reads := cw16, tw_l_reads := tw16, C_l_reads := ⟨⟨_, _, _, _, _, _, _, _, rfl, l16, c16⟩⟩, cw_l_odds := cw17, tw_l_odds := tw17, C_l_odds := ⟨⟨_, _, _, _, _, _, _, _, rfl, l17, c17⟩⟩ } ⟨tb _ (List.mem_cons_self ..), tb _ (List.mem_cons_of_mem _ (List.mem_cons_self ..)), nn16_17⟩⟩
end LK
open PySem PySem.W PyProof.Rows
set_option maxHeartbeats 0 in
theorem PySem.Challenge.cw_lanescroll_k31_numbers_in_bytes_holds : PySem.Challenge.rw_lanescroll_k31_numbers_in_bytes.Holds := by
  w_on; o_law; k_head; (case hw => w_witness2)
  k_fill
  refine LamX.walk_ofTs (l := PySem.Challenge.rw_lanescroll_k31_numbers_in_bytes) (n := 63) (k := 10) (x := "_law_script") (CX := fun _ => L2.CX0) rfl (by decide) rfl ⟨rfl, by decide, by decide⟩ (fun w h Y => PySem.W.km_in_of Y) ?F (fun _ _ _ _ _ h => h)
  case F =>
    intro w mg fa h Y KX G hmg
    refine' LK.all_mk KX G hmg ?a0 ?l0 ?c0 ?k0 ?a1 ?l1 ?c1 ?k1 ?a2 ?l2 ?c2 ?k2 ?a3 ?l3 ?c3 ?k3 ?a4 ?l4 ?c4 ?k4 ?a5 ?l5 ?c5 ?k5 ?a6 ?l6 ?c6 ?k6 ?a7 ?l7 ?c7 ?k7 ?e7 ?q7 ?a8 ?l8 ?c8 ?k8 ?a9 ?l9 ?c9 ?k9 ?a10 ?l10 ?c10 ?k10 ?a11 ?l11 ?c11 ?k11 ?a12 ?l12 ?c12 ?k12 ?a13 ?l13 ?c13 ?k13 ?a14 ?l14 ?c14 ?k14 ?a15 ?l15 ?c15 ?k15 ?a16 ?l16 ?c16 ?k16 ?a17 ?l17 ?c17 ?k17 ?a18 ?l18 ?c18 ?k18 ?z_all ?z_bool ?z_int ?z_isinstance ?z_len ?z_list ?z_range ?z_tuple ?g_GREATEST_NUMBER ?g_BASE ?g_ScrollError ?g_NoNumber ?x_NoNumber ?kc_NoNumber ?bb_NoNumber ?t_NoNumber ?xa_NoNumber ?xb_NoNumber ?xc_NoNumber ?xd_NoNumber ?xe_NoNumber ?xf_NoNumber ?xg_NoNumber ?g_NoBytes ?x_NoBytes ?kc_NoBytes ?bb_NoBytes ?t_NoBytes ?xa_NoBytes ?xb_NoBytes ?xc_NoBytes ?xd_NoBytes ?xe_NoBytes ?xf_NoBytes ?xg_NoBytes ?g_NoPlace ?x_NoPlace ?kc_NoPlace ?bb_NoPlace ?t_NoPlace ?xa_NoPlace ?xb_NoPlace ?xc_NoPlace ?xd_NoPlace ?xe_NoPlace ?xf_NoPlace ?xg_NoPlace ?sb_NoBytes_NoBytes ?bs_NoBytes_NoBytes ?ts_NoBytes_NoBytes ?is_NoBytes_NoBytes ?sb_NoNumber_NoBytes ?bs_NoNumber_NoBytes ?ts_NoNumber_NoBytes ?is_NoNumber_NoBytes ?sb_NoPlace_NoBytes ?bs_NoPlace_NoBytes ?ts_NoPlace_NoBytes ?is_NoPlace_NoBytes ?sb_NoBytes_NoPlace ?bs_NoBytes_NoPlace ?ts_NoBytes_NoPlace ?is_NoBytes_NoPlace ?sb_NoNumber_NoPlace ?bs_NoNumber_NoPlace ?ts_NoNumber_NoPlace ?is_NoNumber_NoPlace ?sb_NoPlace_NoPlace ?bs_NoPlace_NoPlace ?ts_NoPlace_NoPlace ?is_NoPlace_NoPlace ?sb_NoBytes_NoNumber ?bs_NoBytes_NoNumber ?ts_NoBytes_NoNumber ?is_NoBytes_NoNumber ?sb_NoNumber_NoNumber ?bs_NoNumber_NoNumber ?ts_NoNumber_NoNumber ?is_NoNumber_NoNumber ?sb_NoPlace_NoNumber ?bs_NoPlace_NoNumber ?ts_NoPlace_NoNumber ?is_NoPlace_NoNumber ?sb_NoBytes_ScrollError ?bs_NoBytes_ScrollError ?ts_NoBytes_ScrollError ?is_NoBytes_ScrollError ?sb_NoNumber_ScrollError ?bs_NoNumber_ScrollError ?ts_NoNumber_ScrollError ?is_NoNumber_ScrollError ?sb_NoPlace_ScrollError ?bs_NoPlace_ScrollError ?ts_NoPlace_ScrollError ?is_NoPlace_ScrollError ?io_NoBytes_NoNumber ?io_NoNumber_NoNumber ?io_NoPlace_NoNumber ?io_NoBytes_NoPlace ?io_NoNumber_NoPlace ?io_NoPlace_NoPlace ?io_NoBytes_NoBytes ?io_NoNumber_NoBytes ?io_NoPlace_NoBytes ?lw16 ?tv16 ?hd16 ?nt16 ?gt16 ?lw17 ?tv17 ?hd17 ?nt17 ?gt17 ?nn16_17
    (case a0 => k_is)
    (case l0 => k_is)
    (case c0 => k_is)
    (case k0 => k_is)
    (case a1 => k_is)
    (case l1 => k_is)
    (case c1 => k_is)
    (case k1 => k_is)
    (case a2 => k_is)
    (case l2 => k_is)
    (case c2 => k_is)
    (case k2 => k_is)
    (case a3 => k_is)
    (case l3 => k_is)
    (case c3 => k_is)
    (case k3 => k_is)
    (case a4 => k_is)
    (case l4 => k_is)
    (case c4 => k_is)
    (case k4 => k_is)
    (case a5 => k_is)
    (case l5 => k_is)
    (case c5 => k_is)
    (case k5 => k_is)
    (case a6 => k_is)
    (case l6 => k_is)
    (case c6 => k_is)
    (case k6 => k_is)
    (case a7 => k_is)
    (case l7 => k_is)
    (case c7 => k_is)
    (case k7 => k_is)
    (case e7 => k_is)
    (case q7 => first | rfl | k_is | k_exc)
    (case a8 => k_is)
    (case l8 => k_is)
    (case c8 => k_is)
    (case k8 => k_is)
    (case a9 => k_is)
    (case l9 => k_is)
    (case c9 => k_is)
    (case k9 => k_is)
    (case a10 => k_is)
    (case l10 => k_is)
    (case c10 => k_is)
    (case k10 => k_is)
    (case a11 => k_is)
    (case l11 => k_is)
    (case c11 => k_is)
    (case k11 => k_is)
    (case a12 => k_is)
    (case l12 => k_is)
    (case c12 => k_is)
    (case k12 => k_is)
    (case a13 => k_is)
    (case l13 => k_is)
    (case c13 => k_is)
    (case k13 => k_is)
    (case a14 => k_is)
    (case l14 => k_is)
    (case c14 => k_is)
    (case k14 => k_is)
    (case a15 => k_is)
    (case l15 => k_is)
    (case c15 => k_is)
    (case k15 => k_is)
    (case a16 => k_is)
    (case l16 => k_is)
    (case c16 => k_is)
    (case k16 => k_is)
    (case a17 => k_is)
    (case l17 => k_is)
    (case c17 => k_is)
    (case k17 => k_is)
    (case a18 => k_is)
    (case l18 => k_is)
    (case c18 => k_is)
    (case k18 => k_is)
    (case z_all => k_is)
    (case z_bool => k_is)
    (case z_int => k_is)
    (case z_isinstance => k_is)
    (case z_len => k_is)
    (case z_list => k_is)
    (case z_range => k_is)
    (case z_tuple => k_is)
    (case g_GREATEST_NUMBER => k_is)
    (case g_BASE => k_is)
    (case g_ScrollError => k_is)
    (case g_NoNumber => k_is)
    (case x_NoNumber => k_exc)
    (case kc_NoNumber => k_is)
    (case bb_NoNumber => k_is)
    (case t_NoNumber => k_is)
    (case xa_NoNumber => k_is)
    (case xb_NoNumber => k_is)
    (case xc_NoNumber => k_is)
    (case xd_NoNumber => k_is)
    (case xe_NoNumber => k_is)
    (case xf_NoNumber => k_is)
    (case xg_NoNumber => k_is)
    (case g_NoBytes => k_is)
    (case x_NoBytes => k_exc)
    (case kc_NoBytes => k_is)
    (case bb_NoBytes => k_is)
    (case t_NoBytes => k_is)
    (case xa_NoBytes => k_is)
    (case xb_NoBytes => k_is)
    (case xc_NoBytes => k_is)
    (case xd_NoBytes => k_is)
    (case xe_NoBytes => k_is)
    (case xf_NoBytes => k_is)
    (case xg_NoBytes => k_is)
    (case g_NoPlace => k_is)
    (case x_NoPlace => k_exc)
    (case kc_NoPlace => k_is)
    (case bb_NoPlace => k_is)
    (case t_NoPlace => k_is)
    (case xa_NoPlace => k_is)
    (case xb_NoPlace => k_is)
    (case xc_NoPlace => k_is)
    (case xd_NoPlace => k_is)
    (case xe_NoPlace => k_is)
    (case xf_NoPlace => k_is)
    (case xg_NoPlace => k_is)
    (case sb_NoBytes_NoBytes => first | rfl | k_is | k_exc)
    (case bs_NoBytes_NoBytes => k_is)
    (case ts_NoBytes_NoBytes => k_is)
    (case is_NoBytes_NoBytes => k_is)
    (case sb_NoNumber_NoBytes => first | rfl | k_is | k_exc)
    (case bs_NoNumber_NoBytes => k_is)
    (case ts_NoNumber_NoBytes => k_is)
    (case is_NoNumber_NoBytes => k_is)
    (case sb_NoPlace_NoBytes => first | rfl | k_is | k_exc)
    (case bs_NoPlace_NoBytes => k_is)
    (case ts_NoPlace_NoBytes => k_is)
    (case is_NoPlace_NoBytes => k_is)
    (case sb_NoBytes_NoPlace => first | rfl | k_is | k_exc)
    (case bs_NoBytes_NoPlace => k_is)
    (case ts_NoBytes_NoPlace => k_is)
    (case is_NoBytes_NoPlace => k_is)
    (case sb_NoNumber_NoPlace => first | rfl | k_is | k_exc)
    (case bs_NoNumber_NoPlace => k_is)
    (case ts_NoNumber_NoPlace => k_is)
    (case is_NoNumber_NoPlace => k_is)
    (case sb_NoPlace_NoPlace => first | rfl | k_is | k_exc)
    (case bs_NoPlace_NoPlace => k_is)
    (case ts_NoPlace_NoPlace => k_is)
    (case is_NoPlace_NoPlace => k_is)
    (case sb_NoBytes_NoNumber => first | rfl | k_is | k_exc)
    (case bs_NoBytes_NoNumber => k_is)
    (case ts_NoBytes_NoNumber => k_is)
    (case is_NoBytes_NoNumber => k_is)
    (case sb_NoNumber_NoNumber => first | rfl | k_is | k_exc)
    (case bs_NoNumber_NoNumber => k_is)
    (case ts_NoNumber_NoNumber => k_is)
    (case is_NoNumber_NoNumber => k_is)
    (case sb_NoPlace_NoNumber => first | rfl | k_is | k_exc)
    (case bs_NoPlace_NoNumber => k_is)
    (case ts_NoPlace_NoNumber => k_is)
    (case is_NoPlace_NoNumber => k_is)
    (case sb_NoBytes_ScrollError => first | rfl | k_is | k_exc)
    (case bs_NoBytes_ScrollError => k_is)
    (case ts_NoBytes_ScrollError => k_is)
    (case is_NoBytes_ScrollError => k_is)
    (case sb_NoNumber_ScrollError => first | rfl | k_is | k_exc)
    (case bs_NoNumber_ScrollError => k_is)
    (case ts_NoNumber_ScrollError => k_is)
    (case is_NoNumber_ScrollError => k_is)
    (case sb_NoPlace_ScrollError => first | rfl | k_is | k_exc)
    (case bs_NoPlace_ScrollError => k_is)
    (case ts_NoPlace_ScrollError => k_is)
    (case is_NoPlace_ScrollError => k_is)
    (case io_NoBytes_NoNumber => first | rfl | k_is | k_exc)
    (case io_NoNumber_NoNumber => first | rfl | k_is | k_exc)
    (case io_NoPlace_NoNumber => first | rfl | k_is | k_exc)
    (case io_NoBytes_NoPlace => first | rfl | k_is | k_exc)
    (case io_NoNumber_NoPlace => first | rfl | k_is | k_exc)
    (case io_NoPlace_NoPlace => first | rfl | k_is | k_exc)
    (case io_NoBytes_NoBytes => first | rfl | k_is | k_exc)
    (case io_NoNumber_NoBytes => first | rfl | k_is | k_exc)
    (case io_NoPlace_NoBytes => first | rfl | k_is | k_exc)
    (case lw16 => first | k_is | rfl | kernel_rfl)
    (case tv16 => first | rfl | kernel_rfl | decide +kernel)
    (case hd16 => first | rfl | kernel_rfl | decide +kernel)
    (case nt16 => first | rfl | kernel_rfl | decide +kernel)
    (case gt16 => exact PySem.W.km_tabs_of Y _ (by first | k_mem | simp))
    (case lw17 => first | k_is | rfl | kernel_rfl)
    (case tv17 => first | rfl | kernel_rfl | decide +kernel)
    (case hd17 => first | rfl | kernel_rfl | decide +kernel)
    (case nt17 => first | rfl | kernel_rfl | decide +kernel)
    (case gt17 => exact PySem.W.km_tabs_of Y _ (by first | k_mem | simp))
    (case nn16_17 => first | rfl | kernel_rfl | decide +kernel)
