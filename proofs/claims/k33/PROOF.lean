import PyProof.Rows.All
import Wide.All
import OpenK.AllK
import Wide.FinOn
import PySem.Challenge.RW_lanescroll_k33_stuffed_and_unstuffed
import HandS.ForMost
import HandS.ForExc
import HandS.IsInst
import HandS.TupLe
import HandS.Wide
import HandS.Defaults
import HandS.ExcIs
import HandS.Style
import HandS.CallLocal
import HandS.ExcOwn
set_option Elab.async false
set_option linter.all false
set_option maxRecDepth 100000
set_option maxHeartbeats 4000000
namespace LK
open PySem PySem.Spec PyProof.Rows L2
def topS (i : Nat) : Stmt := PySem.Challenge.pw_lanescroll_k33_stuffed_and_unstuffed.main.body.getD i (.Pass ⟨0, 0, 0, 0⟩)
abbrev s_is_number : Stmt := topS 7
abbrev N_is_number : List Str := ["thing"]
theorem sc_is_number : FnScope N_is_number ["thing"] (defScope s_is_number) := ⟨rfl, rfl, rfl, by decide +kernel, rfl, by decide +kernel, by decide +kernel⟩
abbrev s_is_whole : Stmt := topS 8
abbrev N_is_whole : List Str := ["thing", "low", "high"]
theorem sc_is_whole : FnScope N_is_whole ["thing", "low", "high"] (defScope s_is_whole) := ⟨rfl, rfl, rfl, by decide +kernel, rfl, by decide +kernel, by decide +kernel⟩
abbrev s_is_bytes : Stmt := topS 9
abbrev N_is_bytes : List Str := ["thing", "byte"]
theorem sc_is_bytes : FnScope N_is_bytes ["thing"] (defScope s_is_bytes) := ⟨rfl, rfl, rfl, by decide +kernel, rfl, by decide +kernel, by decide +kernel⟩
abbrev s_refuse_no_bytes : Stmt := topS 12
abbrev N_refuse_no_bytes : List Str := ["row"]
theorem sc_refuse_no_bytes : FnScope N_refuse_no_bytes ["row"] (defScope s_refuse_no_bytes) := ⟨rfl, rfl, rfl, by decide +kernel, rfl, by decide +kernel, by decide +kernel⟩
abbrev s_stuffed : Stmt := topS 13
abbrev N_stuffed : List Str := ["row", "found", "noughts", "byte"]
theorem sc_stuffed : FnScope N_stuffed ["row"] (defScope s_stuffed) := ⟨rfl, rfl, rfl, by decide +kernel, rfl, by decide +kernel, by decide +kernel⟩
abbrev s_unstuffed : Stmt := topS 14
abbrev N_unstuffed : List Str := ["row", "found", "noughts", "byte"]
theorem sc_unstuffed : FnScope N_unstuffed ["row"] (defScope s_unstuffed) := ⟨rfl, rfl, rfl, by decide +kernel, rfl, by decide +kernel, by decide +kernel⟩
abbrev s_l_digit : Stmt := topS 16
abbrev N_l_digit : List Str := ["_law_state", "_law_base", "_law_found", "_law_number"]
theorem sc_l_digit : FnScope N_l_digit ["_law_state", "_law_base"] (defScope s_l_digit) := ⟨rfl, rfl, rfl, by decide +kernel, rfl, by decide +kernel, by decide +kernel⟩
abbrev s_l_odd_row : Stmt := topS 17
abbrev N_l_odd_row : List Str := ["_law_state", "_law_row", "_law_odd", "_law_at"]
theorem sc_l_odd_row : FnScope N_l_odd_row ["_law_state", "_law_row"] (defScope s_l_odd_row) := ⟨rfl, rfl, rfl, by decide +kernel, rfl, by decide +kernel, by decide +kernel⟩
abbrev s_l_bytes : Stmt := topS 18
abbrev N_l_bytes : List Str := ["_law_state", "_law_many", "_law_plain", "_law_found", "_law_k", "_law_byte"]
theorem sc_l_bytes : FnScope N_l_bytes ["_law_state", "_law_many"] (defScope s_l_bytes) := ⟨rfl, rfl, rfl, by decide +kernel, rfl, by decide +kernel, by decide +kernel⟩
abbrev s_l_stuffed : Stmt := topS 19
abbrev N_l_stuffed : List Str := ["_law_row", "_law_found", "_law_noughts", "_law_byte"]
theorem sc_l_stuffed : FnScope N_l_stuffed ["_law_row"] (defScope s_l_stuffed) := ⟨rfl, rfl, rfl, by decide +kernel, rfl, by decide +kernel, by decide +kernel⟩
abbrev s_l_unstuffed : Stmt := topS 20
abbrev N_l_unstuffed : List Str := ["_law_row", "_law_found", "_law_at"]
theorem sc_l_unstuffed : FnScope N_l_unstuffed ["_law_row"] (defScope s_l_unstuffed) := ⟨rfl, rfl, rfl, by decide +kernel, rfl, by decide +kernel, by decide +kernel⟩
abbrev s_l_told : Stmt := topS 21
abbrev N_l_told : List Str := ["_law_ask", "_law_row", "e"]
theorem sc_l_told : FnScope N_l_told ["_law_ask", "_law_row"] (defScope s_l_told) := ⟨rfl, rfl, rfl, by decide +kernel, rfl, by decide +kernel, by decide +kernel⟩
abbrev s_l_right : Stmt := topS 22
abbrev N_l_right : List Str := ["_law_row", "_law_handed", "_law_due", "_law_found"]
theorem sc_l_right : FnScope N_l_right ["_law_row"] (defScope s_l_right) := ⟨rfl, rfl, rfl, by decide +kernel, rfl, by decide +kernel, by decide +kernel⟩
abbrev s_law : Stmt := topS 23
abbrev N_law : List Str := ["_law_script", "_law_cell", "_law_state", "_law_row", "_law_there", "_law_at", "_law_byte", "_law_rows", "_law_some", "_law_odd"]
theorem sc_law : FnScope N_law ["_law_script"] (defScope s_law) := ⟨rfl, rfl, rfl, by decide +kernel, rfl, by decide +kernel, by decide +kernel⟩

structure Txt (K : PySem.W.Frag) (mg : Str → Option Value) : Type where
  a_is_number : Addr
  d_is_number : FuncData
  F_is_number : Fun K "is_number" "is_number" s_is_number a_is_number d_is_number
  g_is_number : mg "is_number" = some (.ref a_is_number)
  b_is_number : Binds K d_is_number ["thing"] []
  a_is_whole : Addr
  d_is_whole : FuncData
  F_is_whole : Fun K "is_whole" "is_whole" s_is_whole a_is_whole d_is_whole
  g_is_whole : mg "is_whole" = some (.ref a_is_whole)
  b_is_whole : Binds K d_is_whole ["thing", "low", "high"] []
  a_is_bytes : Addr
  d_is_bytes : FuncData
  F_is_bytes : Fun K "is_bytes" "is_bytes" s_is_bytes a_is_bytes d_is_bytes
  g_is_bytes : mg "is_bytes" = some (.ref a_is_bytes)
  b_is_bytes : Binds K d_is_bytes ["thing"] []
  a_refuse_no_bytes : Addr
  d_refuse_no_bytes : FuncData
  F_refuse_no_bytes : Fun K "refuse_no_bytes" "refuse_no_bytes" s_refuse_no_bytes a_refuse_no_bytes d_refuse_no_bytes
  g_refuse_no_bytes : mg "refuse_no_bytes" = some (.ref a_refuse_no_bytes)
  b_refuse_no_bytes : Binds K d_refuse_no_bytes ["row"] []
  a_stuffed : Addr
  d_stuffed : FuncData
  F_stuffed : Fun K "stuffed" "stuffed" s_stuffed a_stuffed d_stuffed
  g_stuffed : mg "stuffed" = some (.ref a_stuffed)
  b_stuffed : Binds K d_stuffed ["row"] []
  a_unstuffed : Addr
  d_unstuffed : FuncData
  F_unstuffed : Fun K "unstuffed" "unstuffed" s_unstuffed a_unstuffed d_unstuffed
  g_unstuffed : mg "unstuffed" = some (.ref a_unstuffed)
  b_unstuffed : Binds K d_unstuffed ["row"] []
  a_l_digit : Addr
  d_l_digit : FuncData
  F_l_digit : Fun K "_law_digit" "_law_digit" s_l_digit a_l_digit d_l_digit
  g_l_digit : mg "_law_digit" = some (.ref a_l_digit)
  b_l_digit : Binds K d_l_digit ["_law_state", "_law_base"] []
  a_l_odd_row : Addr
  d_l_odd_row : FuncData
  F_l_odd_row : Fun K "_law_odd_row" "_law_odd_row" s_l_odd_row a_l_odd_row d_l_odd_row
  g_l_odd_row : mg "_law_odd_row" = some (.ref a_l_odd_row)
  b_l_odd_row : Binds K d_l_odd_row ["_law_state", "_law_row"] []
  a_l_bytes : Addr
  d_l_bytes : FuncData
  F_l_bytes : Fun K "_law_bytes" "_law_bytes" s_l_bytes a_l_bytes d_l_bytes
  g_l_bytes : mg "_law_bytes" = some (.ref a_l_bytes)
  b_l_bytes : Binds K d_l_bytes ["_law_state", "_law_many"] []
  a_l_stuffed : Addr
  d_l_stuffed : FuncData
  F_l_stuffed : Fun K "_law_stuffed" "_law_stuffed" s_l_stuffed a_l_stuffed d_l_stuffed
  g_l_stuffed : mg "_law_stuffed" = some (.ref a_l_stuffed)
  b_l_stuffed : Binds K d_l_stuffed ["_law_row"] []
  a_l_unstuffed : Addr
  d_l_unstuffed : FuncData
  F_l_unstuffed : Fun K "_law_unstuffed" "_law_unstuffed" s_l_unstuffed a_l_unstuffed d_l_unstuffed
  g_l_unstuffed : mg "_law_unstuffed" = some (.ref a_l_unstuffed)
  b_l_unstuffed : Binds K d_l_unstuffed ["_law_row"] []
  a_l_told : Addr
  d_l_told : FuncData
  F_l_told : Fun K "_law_told" "_law_told" s_l_told a_l_told d_l_told
  g_l_told : mg "_law_told" = some (.ref a_l_told)
  b_l_told : Binds K d_l_told ["_law_ask", "_law_row"] []
  a_l_right : Addr
  d_l_right : FuncData
  F_l_right : Fun K "_law_right" "_law_right" s_l_right a_l_right d_l_right
  g_l_right : mg "_law_right" = some (.ref a_l_right)
  b_l_right : Binds K d_l_right ["_law_row"] []
  a_law : Addr
  d_law : FuncData
  F_law : Fun K "law" "law" s_law a_law d_law
  g_law : mg "law" = some (.ref a_law)
  b_law : Binds K d_law ["_law_script"] []
  m_bool : mg "bool" = none
  m_int : mg "int" = none
  m_isinstance : mg "isinstance" = none
  m_len : mg "len" = none
  m_list : mg "list" = none
  m_range : mg "range" = none
  m_tuple : mg "tuple" = none
  c_ScrollError : Addr
  g_ScrollError : mg "ScrollError" = some (.ref c_ScrollError)
  c_NoNumber : Addr
  g_NoNumber : mg "NoNumber" = some (.ref c_NoNumber)
  c_NoBytes : Addr
  g_NoBytes : mg "NoBytes" = some (.ref c_NoBytes)
  c_NoPlace : Addr
  g_NoPlace : mg "NoPlace" = some (.ref c_NoPlace)
  c_NoStuffing : Addr
  g_NoStuffing : mg "NoStuffing" = some (.ref c_NoStuffing)
  ct_STUFFING : Tok
  g_STUFFING : mg "STUFFING" = some (.int 2 ct_STUFFING)
  x_NoBytes : PySem.W.excIn K c_NoBytes [.type "ValueError", .type "Exception", .type "BaseException", .type "object"] "ValueError.__new__" = true
  k_NoBytes : PySem.W.keepIn K (.ref c_NoBytes) = true
  bb_NoBytes : PySem.W.subIn K (.ref c_NoBytes) (.type "BaseException") = some true
  t_NoBytes : PySem.W.typeIn K (.ref c_NoBytes) = some (.type "type")
  xc_NoBytes : ExcC K c_NoBytes
  x_NoStuffing : PySem.W.excIn K c_NoStuffing [.type "ValueError", .type "Exception", .type "BaseException", .type "object"] "ValueError.__new__" = true
  k_NoStuffing : PySem.W.keepIn K (.ref c_NoStuffing) = true
  bb_NoStuffing : PySem.W.subIn K (.ref c_NoStuffing) (.type "BaseException") = some true
  t_NoStuffing : PySem.W.typeIn K (.ref c_NoStuffing) = some (.type "type")
  xc_NoStuffing : ExcC K c_NoStuffing
  em_NoBytes_NoBytes : PySem.W.exmOne K (.ref c_NoBytes) (.ref c_NoBytes) = some true
  em_NoStuffing_NoBytes : PySem.W.exmOne K (.ref c_NoStuffing) (.ref c_NoBytes) = some false
  em_NoBytes_NoStuffing : PySem.W.exmOne K (.ref c_NoBytes) (.ref c_NoStuffing) = some false
  em_NoStuffing_NoStuffing : PySem.W.exmOne K (.ref c_NoStuffing) (.ref c_NoStuffing) = some true
  em_NoBytes_ScrollError : PySem.W.exmOne K (.ref c_NoBytes) (.ref c_ScrollError) = some true
  em_NoStuffing_ScrollError : PySem.W.exmOne K (.ref c_NoStuffing) (.ref c_ScrollError) = some true
  io_NoBytes_NoNumber : PySem.W.kitOne K (.ref c_NoBytes) (.ref c_NoNumber) = some false
  io_NoStuffing_NoNumber : PySem.W.kitOne K (.ref c_NoStuffing) (.ref c_NoNumber) = some false
  io_NoBytes_NoPlace : PySem.W.kitOne K (.ref c_NoBytes) (.ref c_NoPlace) = some false
  io_NoStuffing_NoPlace : PySem.W.kitOne K (.ref c_NoStuffing) (.ref c_NoPlace) = some false
  io_NoBytes_NoStuffing : PySem.W.kitOne K (.ref c_NoBytes) (.ref c_NoStuffing) = some false
  io_NoStuffing_NoStuffing : PySem.W.kitOne K (.ref c_NoStuffing) (.ref c_NoStuffing) = some true
  io_NoBytes_NoBytes : PySem.W.kitOne K (.ref c_NoBytes) (.ref c_NoBytes) = some true
  io_NoStuffing_NoBytes : PySem.W.kitOne K (.ref c_NoStuffing) (.ref c_NoBytes) = some false
/-! ### heaps -/
/-- all but what stands at p is as it was -/
def Frm (p : Addr) (H H' : Hp) : Prop := ∀ b o, b ≠ p → H b = some o → H' b = some o
theorem Frm.get {p q : Addr} {H H' : Hp} {o : HO} (f : Frm p H H') (n : q ≠ p) (h : H q = some o) : H' q = some o := f q o n h
theorem Frm.refl {p : Addr} {H : Hp} : Frm p H H := fun _ _ _ h => h
theorem Frm.trans {p : Addr} {H H1 H2 : Hp} (a : Frm p H H1) (b : Frm p H1 H2) : Frm p H H2 := fun c o n h => b c o n (a c o n h)
theorem Frm.upd {p : Addr} {H : Hp} {o : HO} : Frm p H (upd H p o) := fun c u n h => by rw [upd_ne n]; exact h
theorem upd_old {H : Hp} {a q : Addr} {o o' : HO} (na : H a = none) (h : H q = some o) : upd H a o' q = some o := by
  rw [upd_ne (ne_of_none h na)]; exact h
theorem upd_oth {H : Hp} {a q : Addr} {o o' : HO} (na : q ≠ a) (h : H q = some o) : upd H a o' q = some o := by
  rw [upd_ne na]; exact h
theorem Frm.new {p a : Addr} {H H' : Hp} {o : HO} (f : Frm p H H') (na : H' a = none) : Frm p H (L2.upd H' a o) := fun c u n h => upd_old na (f c u n h)
theorem Frm.upd2 {p : Addr} {H H' : Hp} {o : HO} (f : Frm p H H') : Frm p H (L2.upd H' p o) := f.trans .upd
theorem Frm.own {p a : Addr} {H H' : Hp} {o : HO} (f : Frm p H H') (na : H a = none) : Frm p H (L2.upd H' a o) := fun c u n h => upd_oth (ne_of_none h na) (f c u n h)
theorem Frm.new2 {p a : Addr} {H H' : Hp} {o o2 : HO} (f : Frm p H H') (na : H' a = none) : Frm p H (L2.upd (L2.upd H' a o2) a o) := by rw [upd_upd]; exact f.new na
theorem upd_old2 {H : Hp} {a q : Addr} {o o' o2 : HO} (na : H a = none) (h : H q = some o) : upd (upd H a o2) a o' q = some o := by rw [upd_upd]; exact upd_old na h
theorem new_ne {H : Hp} {a q : Addr} {o : HO} (na : H a = none) (h : H q = some o) : a ≠ q := fun e => by subst e; rw [na] at h; cases h
theorem Same.get {q : Addr} {H H' : Hp} {o : HO} (f : Same H H') (h : H q = some o) : H' q = some o := f q o h
theorem Same.new {a : Addr} {H H' : Hp} {o : HO} (f : Same H H') (na : H' a = none) : Same H (L2.upd H' a o) := fun c u h => upd_old na (f c u h)
theorem Same.new2 {a : Addr} {H H' : Hp} {o o2 : HO} (f : Same H H') (na : H' a = none) : Same H (L2.upd (L2.upd H' a o2) a o) := by rw [upd_upd]; exact Same.new f na
theorem Same.own {a : Addr} {H H' : Hp} {o : HO} (f : Same H H') (na : H a = none) : Same H (L2.upd H' a o) := fun c u h => upd_oth (ne_of_none h na) (f c u h)
theorem Same.frm {p : Addr} {H H' : Hp} (f : Same H H') : Frm p H H' := fun c u _ h => f c u h
/-- what is new to an elder heap and stands apart is no matter -/
theorem Frm.same {p : Addr} {H H' : Hp} (f : Frm p H H') (n : H p = none) : Same H H' := fun c u h => f c u (ne_of_none h n) h
theorem Same.byFrm {p : Addr} {H H1 H2 : Hp} (f : Same H H1) (g : Frm p H1 H2) (n : H p = none) : Same H H2 := fun c u h => g c u (ne_of_none h n) (f c u h)
theorem Frm.none {p q : Addr} {H H' : Hp} (f : Frm p H H') (n : q ≠ p) (h : H' q = none) : H q = none := by
  cases e : H q with
  | none => rfl
  | some o => rw [f q o n e] at h; cases h
theorem Same.none {q : Addr} {H H' : Hp} (f : Same H H') (h : H' q = none) : H q = none := by
  cases e : H q with
  | none => rfl
  | some o => rw [f q o e] at h; cases h
/-! ### sizes, ifs -/
theorem szb {n : Nat} (h : n ≤ 16000000) : n ≤ sizeLine := Nat.le_trans h (by decide)
theorem szbl {n : Nat} (h : n ≤ 16000000) : n < sizeLine := Nat.lt_of_le_of_lt h (by decide)
theorem sz {n : Nat} (h : Nat.ble n 1000 = true) : n ≤ sizeLine := Nat.le_trans (Nat.le_of_ble_eq_true h) (by decide)
theorem szl {n : Nat} (h : Nat.ble n 1000 = true) : n < sizeLine := Nat.lt_of_le_of_lt (Nat.le_of_ble_eq_true h) (by decide)
theorem szn {n : Nat} (h : n ≤ 1000) : n ≤ sizeLine := Nat.le_trans h (by decide)
theorem sznl {n : Nat} (h : n ≤ 1000) : n < sizeLine := Nat.lt_of_le_of_lt h (by decide)
theorem ifT {c : Bool} {A B : Prop} (h : c = true) (a : A) : if c = true then A else B := by rw [if_pos h]; exact a
theorem ifF {c : Bool} {A B : Prop} (h : c = false) (b : B) : if c = true then A else B := by rw [h, if_neg Bool.false_ne_true]; exact b
theorem ifC {c : Bool} {A B : Prop} (a : c = true → A) (b : c = false → B) : if c = true then A else B := by
  cases c with
  | true => exact ifT rfl (a rfl)
  | false => exact ifF rfl (b rfl)
theorem ifAnd {k1 k2 : Bool} {A : Prop} {Q : VK} {H : Hp} (a : Q (.bl k2) H → A) (h : Q (.bl (k1 && k2)) H) : if k1 = true then A else Q (.bl false) H := by
  cases k1 with
  | true => exact ifT rfl (a h)
  | false => exact ifF rfl h
/-! ### items at a drawn place -/
theorem at_nn {α : Type} {xs : List α} {d : Int} (h0 : 0 ≤ d) (h1 : d < xs.length) : ∃ v, atI xs d = some v ∧ v ∈ xs ∧ xs[d.toNat]? = some v := by
  have h2 : d.toNat < xs.length := by omega
  have e : (d.toNat : Int) = d := by omega
  have k := atI_nat (List.getElem?_eq_getElem h2)
  rw [e] at k
  exact ⟨xs[d.toNat], k, List.getElem_mem h2, List.getElem?_eq_getElem h2⟩
theorem ixP {K : PySem.W.Frag} {H : Hp} {Q : VK} {p : Addr} {xs : List V} {d : Int} (R : V → Prop) (hp : SqL K H p xs) (h0 : 0 ≤ d) (h1 : d < xs.length) (all : ∀ v ∈ xs, R v) (k : ∀ v, R v → Q v H) : rIxL K (.ref p) (.int d) H Q := by
  obtain ⟨v, e, m, _⟩ := at_nn h0 h1
  exact ⟨_, _, _, _, rfl, rfl, hp, e, k v (all v m)⟩
theorem ixG {K : PySem.W.Frag} {H : Hp} {Q : VK} {p : Addr} {xs : List V} {d : Int} (hp : SqL K H p xs) (h0 : 0 ≤ d) (h1 : d < xs.length) (k : ∀ v, xs[d.toNat]? = some v → Q v H) : rIxL K (.ref p) (.int d) H Q := by
  obtain ⟨v, e, _, m⟩ := at_nn h0 h1
  exact ⟨_, _, _, _, rfl, rfl, hp, e, k v m⟩
def isI : V → Bool
  | .int _ => true
  | _ => false
theorem ixI {K : PySem.W.Frag} {H : Hp} {Q : VK} {p : Addr} {xs : List V} {d : Int} (hp : SqL K H p xs) (h0 : 0 ≤ d) (h1 : d < xs.length) (all : xs.all isI = true) (k : ∀ i, V.int i ∈ xs → Q (.int i) H) : rIxL K (.ref p) (.int d) H Q := by
  refine ixP (fun v => (∃ i, v = .int i) ∧ v ∈ xs) hp h0 h1 (fun v hv => ⟨?_, hv⟩) (fun v ⟨⟨i, e⟩, m⟩ => ?_)
  · have := List.all_eq_true.mp all v hv
    cases v <;> first | exact ⟨_, rfl⟩ | cases this
  · subst e; exact k i m
/-! ### a call with keywords alone -/
section
variable {X : Cx} {CX : CXT} {k : Nat} {f : Addr} {fd : FuncData} {ps ks : List Str} {sp : Sp} {E : XK} {x : Str} {p pos : Pos} {kws : List Keyword} {tk : TA} {g : List Value → List Value → List Value} {gV : List V → List V → List V}
theorem pe_callN0 (F : FnOk X.prog X.w X.K X.mg X.base CX k f fd ps sp) (hr : Room k X.A) (hg : Gl X x) (hm : X.mg x = some (.ref f)) (hk : PySem.W.keepIn X.K (.ref f) = true) (hb : KBn X.K fd ps 0 ks g gV) (hx : Passes CX X E)
    (hkw : PK X kws tk) (hall : (backToKw pos (keywordEach kws X.env)).all (·.1.isSome) = true := by rfl) (hks : (backToKw pos (keywordEach kws X.env)).filterMap (·.1) = ks := by rfl)
    (hdb : (x == ("__debug__" : Str)) = false := by decide)
    (hpl : ((backTo pos (starEach [] X.env)).any (·.1) || (backToKw pos (keywordEach kws X.env)).any (·.1.isNone)) = false := by rfl) :
    PE X (.Call (.Name x p) [] kws pos) (tCallN 0 ks.length sp gV E tNil tk) := by
  refine ⟨fun pins s σ H Q I h => ?_⟩
  refine wpAny_Call_Name_kw (ld_glob I hg hm ?_ hdb)
  refine PySem.W.callWith_KW0 (h₀ := X.base) I.ok.mod.kin hk hall (thn (hkw.run pos pins s σ H _ I h) fun ws s2 ⟨zs, H2, I2, rz, l1, l2, q2⟩ => ⟨I2.kIn, ?_⟩) hpl
  rw [hks]
  exact run_fnN F hr hb hx I2 .nil rz rfl l2 q2
end
section
variable {K : PySem.W.Frag} {x qual : Str} {st : Stmt} {f : Addr} {fd : FuncData} {ps ks : List Str} {n : Nat}
theorem kbAll {F : Fun K x qual st f fd} {g : {α : Type} → List α → List α → List α} (h : ∀ (kV doc pm : Value) (an : Option Addr) (cdv ct : Value) (us ws : List Value), us.length = n → ws.length = ks.length →
    bindArgs (PySem.W.fnOf x qual (defArgs st) (defBody st) (defScope st) .none kV doc pm an cdv ct) ⟨us, ks.zip ws⟩ = pure (ps.zip (g us ws)))
    (hrel : ∀ {vs : List V} {us : List Value} {zs : List V} {ws : List Value}, Vals vs us → Vals zs ws → Vals (g vs zs) (g us ws)) : KBn K fd ps n ks (fun us ws => g us ws) (fun us ws => g us ws) := by
  obtain ⟨oc, od, kV, doc, pm, an, cdv, ct, osl, rfl, lk, hcd⟩ := F.ex
  exact ⟨fun s us ws _ h1 h2 => .of_eq (h kV doc pm an cdv ct us ws h1 h2), fun r1 r2 => hrel r1 r2⟩
variable {params : Arguments} {body : List Stmt} {scope : Scope} {dvs : List V}
theorem bindsAll {F : FunD K x qual params body scope dvs [] f fd}
    (h : ∀ (T : Addr) (kV doc pm : Value) (an : Option Addr) (cdv ct : Value) (us its : List Value), us.length = ps.length → its.length = dvs.length →
      ∃ k, bindArgs (PySem.W.fnOf x qual params body scope (.ref T) kV doc pm an cdv ct) ⟨us, []⟩ = seqItems? (.ref T) >>= k ∧ k (some its.toArray) = pure (ps.zip us)) (hd : dvs ≠ []) : Binds K fd ps [] := by
  obtain ⟨ds, hv, hb⟩ := F.binds1 (ps := ps) ps.length dvs.length hd (by omega) (fun T kV doc pm an cdv ct us its h1 h2 => by
    obtain ⟨k, e1, e2⟩ := h T kV doc pm an cdv ct us its h1 h2
    refine ⟨k, e1, ?_⟩
    rw [e2, ← h2, List.drop_length, List.append_nil])
  rw [List.drop_length] at hv
  cases hv
  exact hb
theorem kbAllD {F : FunD K x qual params body scope dvs [] f fd} {g : {α : Type} → List α → List α → List α}
    (h : ∀ (T : Addr) (kV doc pm : Value) (an : Option Addr) (cdv ct : Value) (us its ws : List Value), us.length = n → its.length = dvs.length → ws.length = ks.length →
      ∃ k, bindArgs (PySem.W.fnOf x qual params body scope (.ref T) kV doc pm an cdv ct) ⟨us, ks.zip ws⟩ = seqItems? (.ref T) >>= k ∧ k (some its.toArray) = pure (ps.zip (g us ws))) (hd : dvs ≠ [])
    (hrel : ∀ {vs : List V} {us : List Value} {zs : List V} {ws : List Value}, Vals vs us → Vals zs ws → Vals (g vs zs) (g us ws)) : KBn K fd ps n ks (fun us ws => g us ws) (fun us ws => g us ws) := by
  obtain ⟨oc, od, dV, kV, doc, pm, an, cdv, ct, osl, rfl, lk, hcd, hD, hK⟩ := F.ex
  rcases hD with ⟨e, _⟩ | ⟨_, T, o, its, m, rfl, lT, oT, rT⟩
  · exact absurd e hd
  · refine ⟨fun s us ws X l1 l2 => ?_, fun r1 r2 => hrel r1 r2⟩
    obtain ⟨k, e1, e2⟩ := h T kV doc pm an cdv ct us its ws l1 rT.length.symm l2
    refine BindsTo.of_looks fun M => ?_
    rw [e1]
    exact looks_items X lT oT (.of_pure e2)
theorem exm_by {K : PySem.W.Frag} {C S : Addr} {b : Bool} (h1 : PySem.W.subIn K (.ref S) (.type "BaseException") = some true) (h2 : PySem.W.isClsIn K S = true) (h3 : PySem.W.typeIn K (.ref S) = some (.type "type")) (h4 : PySem.W.subIn K (.ref C) (.ref S) = some b) :
    PySem.W.exmOne K (.ref C) (.ref S) = some b := by
  have e1 : (PySem.W.subIn K (.ref S) (.type "BaseException") == some true) = true := by rw [h1] <;> rfl
  have e2 : ((PySem.W.clsIn K S).isSome && PySem.W.typeIn K (.ref S) == some (.type "type")) = true := by
    have h2' : (PySem.W.clsIn K S).isSome = true := h2
    rw [h2', h3] <;> rfl
  show (if (PySem.W.subIn K (.ref S) (.type "BaseException") == some true) = true then (if ((PySem.W.clsIn K S).isSome && PySem.W.typeIn K (.ref S) == some (.type "type")) = true then PySem.W.subIn K (.ref C) (.ref S) else none) else none) = some b
  rw [if_pos e1, if_pos e2]
  exact h4
end
/-! ### a < b < c of whole numbers, as one answer -/
def MonoE (t : TE) : Prop := ∀ (σ : L2.St) (H : Hp) (Q Q' : VK), (∀ v H', Q v H' → Q' v H') → t σ H Q → t σ H Q'
theorem mn_var {i : Nat} : MonoE (tVar i) := fun _ _ _ _ k ⟨v, e, q⟩ => ⟨v, e, k _ _ q⟩
theorem mn_c {v : V} : MonoE (tC v) := fun _ _ _ _ k q => k _ _ q
theorem mn_I0 {g : Int → Int → V} {ta tb : TE} (a : MonoE ta) (b : MonoE tb) : MonoE (tOp (rI0 g) ta tb) := fun σ H Q Q' k h =>
  a σ H _ _ (fun _ H1 h1 => b σ H1 _ _ (fun _ _ ⟨i, j, e1, e2, q⟩ => ⟨i, j, e1, e2, k _ _ q⟩) h1) h
theorem mn_I {C : Int → Int → Prop} {g : Int → Int → V} {ta tb : TE} (a : MonoE ta) (b : MonoE tb) : MonoE (tOp (rI C g) ta tb) := fun σ H Q Q' k h =>
  a σ H _ _ (fun _ H1 h1 => b σ H1 _ _ (fun _ _ ⟨i, j, e1, e2, c, q⟩ => ⟨i, j, e1, e2, c, k _ _ q⟩) h1) h
theorem mn_ixL {K : PySem.W.Frag} {ta tb : TE} (a : MonoE ta) (b : MonoE tb) : MonoE (tOp (rIxL K) ta tb) := fun σ H Q Q' k h =>
  a σ H _ _ (fun _ H1 h1 => b σ H1 _ _ (fun _ _ ⟨p, xs, i, v, e1, e2, s, e, q⟩ => ⟨p, xs, i, v, e1, e2, s, e, k _ _ q⟩) h1) h
theorem mn_ixT {K : PySem.W.Frag} {ta tb : TE} (a : MonoE ta) (b : MonoE tb) : MonoE (tOp (rIxT K) ta tb) := fun σ H Q Q' k h =>
  a σ H _ _ (fun _ H1 h1 => b σ H1 _ _ (fun _ _ ⟨p, xs, i, v, e1, e2, s, e, q⟩ => ⟨p, xs, i, v, e1, e2, s, e, k _ _ q⟩) h1) h
theorem mn_len {r : List V → Hp → VK → Prop} {ta : TE} (a : MonoE ta) (hr : ∀ vs H (Q Q' : VK), (∀ v H', Q v H' → Q' v H') → r vs H Q → r vs H Q') : MonoE (tCB r (tCons ta tNil)) := fun σ H Q Q' k h =>
  a σ H _ _ (fun _ H1 h1 => hr _ _ _ _ k h1) h
def tChI (g g' : Int → Int → Bool) (ta tb tc : TE) : TE := fun σ H Q => ta σ H fun x H1 => tb σ H1 fun y H2 => tc σ H2 fun z H3 => ∃ i j l : Int, x = .int i ∧ y = .int j ∧ z = .int l ∧ H3 = H2 ∧ Q (.bl (g i j && g' j l)) H2
/-- what c's reading tells is told at once: c changes nothing -/
theorem tChI_to {g g' : Int → Int → Bool} {ta tb tc : TE} (ma : MonoE ta) (mb : MonoE tb) (mc : MonoE tc) {σ : L2.St} {H : Hp} {Q : VK} (cx : ∀ (σ : L2.St) (H : Hp) (Q : V → Hp → Prop), tc σ H Q → ∃ v H', Q v H') (h : tChI g g' ta tb tc σ H Q) :
    tChain (rI0 fun i j => .bl (g i j)) (rI0 fun i j => .bl (g' i j)) ta tb tc σ H Q := by
  refine ma σ H _ _ (fun x H1 h1 => mb σ H1 _ _ (fun y H2 h2 => ?_) h1) h
  obtain ⟨_, _, i, j, l, ex, ey, _, _, q⟩ := cx _ _ _ h2
  refine ⟨i, j, ex, ey, _, rfl, ?_⟩
  cases e : g i j with
  | true =>
    refine ifT rfl (mc σ H2 _ _ (fun z H3 h3 => ?_) h2)
    obtain ⟨i', j', l', ex', ey', ez, e3, q'⟩ := h3
    have e1 : i' = i := V.int.inj (ex'.symm.trans ex)
    have e2 : j' = j := V.int.inj (ey'.symm.trans ey)
    subst e1 e2 ez e3
    rw [e, Bool.true_and] at q'
    exact ⟨j', l', ey, rfl, q'⟩
  | false =>
    rw [e, Bool.false_and] at q
    exact ifF rfl q
def ShowsE (t : TE) : Prop := ∀ (σ : L2.St) (H : Hp) (Q : V → Hp → Prop), t σ H Q → ∃ v H', Q v H'
theorem sh_var {i : Nat} : ShowsE (tVar i) := fun _ _ _ ⟨v, _, q⟩ => ⟨v, _, q⟩
theorem sh_c {v : V} : ShowsE (tC v) := fun _ _ _ q => ⟨_, _, q⟩
theorem sh_I0 {g : Int → Int → V} {ta tb : TE} (a : ShowsE ta) (b : ShowsE tb) : ShowsE (tOp (rI0 g) ta tb) := fun σ H Q h => by
  obtain ⟨x, H1, h1⟩ := a _ _ _ h
  obtain ⟨y, H2, h2⟩ := b _ _ _ h1
  obtain ⟨i, j, _, _, q⟩ := h2
  exact ⟨_, _, q⟩
theorem sh_I {C : Int → Int → Prop} {g : Int → Int → V} {ta tb : TE} (a : ShowsE ta) (b : ShowsE tb) : ShowsE (tOp (rI C g) ta tb) := fun σ H Q h => by
  obtain ⟨x, H1, h1⟩ := a _ _ _ h
  obtain ⟨y, H2, h2⟩ := b _ _ _ h1
  obtain ⟨i, j, _, _, _, q⟩ := h2
  exact ⟨_, _, q⟩
theorem sh_ixL {K : PySem.W.Frag} {ta tb : TE} (a : ShowsE ta) (b : ShowsE tb) : ShowsE (tOp (rIxL K) ta tb) := fun σ H Q h => by
  obtain ⟨x, H1, h1⟩ := a _ _ _ h
  obtain ⟨y, H2, h2⟩ := b _ _ _ h1
  obtain ⟨_, _, _, _, _, _, _, _, q⟩ := h2
  exact ⟨_, _, q⟩
theorem sh_ixT {K : PySem.W.Frag} {ta tb : TE} (a : ShowsE ta) (b : ShowsE tb) : ShowsE (tOp (rIxT K) ta tb) := fun σ H Q h => by
  obtain ⟨x, H1, h1⟩ := a _ _ _ h
  obtain ⟨y, H2, h2⟩ := b _ _ _ h1
  obtain ⟨_, _, _, _, _, _, _, _, q⟩ := h2
  exact ⟨_, _, q⟩
theorem PE.weak {X : Cx} {e : Expr} {t t' : TE} (h : PE X e t) (w : ∀ σ H Q, t' σ H Q → t σ H Q) : PE X e t' := ⟨fun pins s σ H Q I q => h.run pins s σ H Q I (w _ _ _ q)⟩
theorem pe_chainI {X : Cx} {op op' : CmpOp} {g g' : Int → Int → Bool} {a b c : Expr} {ta tb tc : TE} {pos : Pos} (ho : OpR X (compareOp op) (rI0 fun i j => .bl (g i j))) (ho' : OpR X (compareOp op') (rI0 fun i j => .bl (g' i j)))
    (ha : PE X a ta) (hb : PE X b tb) (hc : PE X c tc) (ma : MonoE ta) (mb : MonoE tb) (mc : MonoE tc) (sc : ShowsE tc) (hm : lastMarks [op, op'] [b, c] = false := by rfl) : PE X (.Compare a [op, op'] [b, c] pos) (tChI g g' ta tb tc) :=
  PE.weak (pe_chain ho ho' ha hb hc hm) (fun _ _ _ h => tChI_to ma mb mc sc h)
/-! ### rules within a comprehension: the written part by its own name -/
section
variable {X : Cx} {K : PySem.W.Frag}
theorem ix_listK (h : X.K = K) : IxR X (rIxL K) := h ▸ ix_list
theorem ix_tupK (h : X.K = K) : IxR X (rIxT K) := h ▸ ix_tup
theorem sl_listK (h : X.K = K) : SlR X (rSlL K) := h ▸ sl_list
theorem call_len_seqK (h : X.K = K) : CallR X (.builtin "len") (fun xs H Q => ∃ p ys, xs = [.ref p] ∧ (SqL K H p ys ∨ SqT K H p ys) ∧ Q (.int ys.length) H) := h ▸ call_len_seq
end
/-! ### comprehensions and loops whose invariants speak of the heap at their begin -/
theorem lcL {K : PySem.W.Frag} {a : Addr} {xs : List V} {g : TG} {tt : TT} {te : TE} {vs : List Nat} {σ : L2.St} {H1 : Hp} {D : Addr} {Qd : Hp → Prop} (Pv : Hp → Nat → Hp → Prop) (h0 : Pv H1 0 (upd H1 D (.lst []))) (hl : ∀ i H, i ≤ xs.length → Pv H1 i H → SqL K H a xs)
    (hs : ∀ i x H, xs[i]? = some x → Pv H1 i H → g x (wipe σ vs) H fun σ2 H2 => wipe σ2 vs = wipe σ vs ∧ tt σ2 H2 fun b H3 =>
      if b = true then te σ2 H3 fun y H4 => ∃ acc, H4 D = some (.lst acc) ∧ acc.length < sizeLine ∧ Pv H1 (i + 1) (upd H4 D (.lst (acc ++ [y]))) else Pv H1 (i + 1) H3) (hd : ∀ H, Pv H1 xs.length H → Qd H) :
    ∃ W : Nat → Nat → Hp → Prop, (∃ m, W 0 m (upd H1 D (.lst []))) ∧ ∀ i m H, W i m H →
      ((Itl K a).stop i H ∧ Qd H) ∨ ((Itl K a).go i H ∧ ∃ Nx : Hp → Prop, (∀ H', Nx H' → ∃ m', m' < m ∧ W (i + 1) m' H') ∧ ∀ x H', (Itl K a).yld i H x H' → g x (wipe σ vs) H' fun σ2 H2 => wipe σ2 vs = wipe σ vs ∧ tt σ2 H2 fun b H3 =>
        if b = true then te σ2 H3 fun y H4 => ∃ acc, H4 D = some (.lst acc) ∧ acc.length < sizeLine ∧ Nx (upd H4 D (.lst (acc ++ [y]))) else Nx H3) := lc_list (Pv H1) h0 hl hs hd
theorem lcR {lo : Int} {n : Nat} {g : TG} {tt : TT} {te : TE} {vs : List Nat} {σ : L2.St} {H1 : Hp} {D : Addr} {Qd : Hp → Prop} (Pv : Hp → Nat → Hp → Prop) (h0 : Pv H1 0 (upd H1 D (.lst [])))
    (hs : ∀ i H, i < n → Pv H1 i H → g (.int (lo + i)) (wipe σ vs) H fun σ2 H2 => wipe σ2 vs = wipe σ vs ∧ tt σ2 H2 fun b H3 =>
      if b = true then te σ2 H3 fun y H4 => ∃ acc, H4 D = some (.lst acc) ∧ acc.length < sizeLine ∧ Pv H1 (i + 1) (upd H4 D (.lst (acc ++ [y]))) else Pv H1 (i + 1) H3) (hd : ∀ H, Pv H1 n H → Qd H) :
    ∃ W : Nat → Nat → Hp → Prop, (∃ m, W 0 m (upd H1 D (.lst []))) ∧ ∀ i m H, W i m H →
      ((Itr lo n).stop i H ∧ Qd H) ∨ ((Itr lo n).go i H ∧ ∃ Nx : Hp → Prop, (∀ H', Nx H' → ∃ m', m' < m ∧ W (i + 1) m' H') ∧ ∀ x H', (Itr lo n).yld i H x H' → g x (wipe σ vs) H' fun σ2 H2 => wipe σ2 vs = wipe σ vs ∧ tt σ2 H2 fun b H3 =>
        if b = true then te σ2 H3 fun y H4 => ∃ acc, H4 D = some (.lst acc) ∧ acc.length < sizeLine ∧ Nx (upd H4 D (.lst (acc ++ [y]))) else Nx H3) := lc_range (Pv H1) h0 hs hd
theorem forL {K : PySem.W.Frag} {a : Addr} {xs : List V} {g : TG} {tb : TS} {D : Ends} {σ : L2.St} {H : Hp} (Pv : Hp → Nat → L2.St → Hp → Prop) (h0 : Pv H 0 σ H) (hl : ∀ i σ H', i ≤ xs.length → Pv H i σ H' → SqL K H' a xs)
    (hs : ∀ i x σ H', xs[i]? = some x → Pv H i σ H' → g x σ H' fun σ2 H2 => tb { D with nx := Pv H (i + 1), ct := Pv H (i + 1), bk := D.nx } σ2 H2) (hd : ∀ σ H', Pv H xs.length σ H' → D.nx σ H') :
    ∃ W : Nat → Nat → L2.St → Hp → Prop, (∃ m, W 0 m σ H) ∧ ∀ i m σ H, W i m σ H →
      ((Itl K a).stop i H ∧ D.nx σ H) ∨ ((Itl K a).go i H ∧ ∃ N : L2.St → Hp → Prop, (∀ σ' H', N σ' H' → ∃ m', m' < m ∧ W (i + 1) m' σ' H') ∧ ∀ x H', (Itl K a).yld i H x H' → g x σ H' fun σ2 H2 => tb { D with nx := N, ct := N, bk := D.nx } σ2 H2) := for_list (Pv H) h0 hl hs hd
theorem forR {lo : Int} {n : Nat} {g : TG} {tb : TS} {D : Ends} {σ : L2.St} {H : Hp} (Pv : Hp → Nat → L2.St → Hp → Prop) (h0 : Pv H 0 σ H)
    (hs : ∀ i σ H', i < n → Pv H i σ H' → g (.int (lo + i)) σ H' fun σ2 H2 => tb { D with nx := Pv H (i + 1), ct := Pv H (i + 1), bk := D.nx } σ2 H2) (hd : ∀ σ H', Pv H n σ H' → D.nx σ H') :
    ∃ W : Nat → Nat → L2.St → Hp → Prop, (∃ m, W 0 m σ H) ∧ ∀ i m σ H, W i m σ H →
      ((Itr lo n).stop i H ∧ D.nx σ H) ∨ ((Itr lo n).go i H ∧ ∃ N : L2.St → Hp → Prop, (∀ σ' H', N σ' H' → ∃ m', m' < m ∧ W (i + 1) m' σ' H') ∧ ∀ x H', (Itr lo n).yld i H x H' → g x σ H' fun σ2 H2 => tb { D with nx := N, ct := N, bk := D.nx } σ2 H2) := for_range (Pv H) h0 hs hd
/-- a call's answer when nothing but it matters: the heap by a name -/
theorem name_heap {P : Hp → Prop} {H : Hp} (h : ∀ H', H' = H → P H') : P H := h H rfl
/-! ### isinstance of a caught error, whatever its class -/
theorem call_isE2 {X : Cx} {K : PySem.W.Frag} {a : Addr} {oe : Obj} {cls : Value} {d : Option Addr} {pn : List (Addr × Obj)} (hK : X.K = K) (hz : Zc cls d oe) (hf : ∃ vs, oe.data = .fields vs) :
    CallR (X.suite a ((a, oe) :: pn)) (.builtin "isinstance") (fun xs H Q => ∃ D, cls = .ref D ∧ d = none ∧ ExcC K D ∧ rIsE K D a xs H Q) := by
  subst hK
  intro pins s σ H xs us Q I r h
  obtain ⟨D, rfl, rfl, C, h⟩ := h
  exact call_isE C hz hf pins s σ H xs us Q I r h
/-! ### several clauses of one try, each with a name for the error or without -/
abbrev Suite := Addr → Value → Option Addr → TS
/-- what follows a suite whose error had the slot i -/
def offAt (i : Nat) (D : Ends) : Ends := { nx := fun u G => D.nx (u.set i none) G, rt := D.rt, bk := fun u G => D.bk (u.set i none) G, ct := fun u G => D.ct (u.set i none) G }
def wMix (K : PySem.W.Frag) (Wo : WX) (D : Ends) : List (Value × Option Nat × Suite) → WX
  | [] => Wo
  | (c, none, t) :: r => fun k d u G => ∃ y, PySem.W.exmOne K k c = some y ∧ (y = true → ∀ e, G e = none → t e k d D u G) ∧ (y = false → wMix K Wo D r k d u G)
  | (c, some i, t) :: r => fun k d u G => ∃ y, PySem.W.exmOne K k c = some y ∧ (y = true → ∀ e, G e = none → t e k d (offAt i D) (u.set i (some (.ref e))) G) ∧ (y = false → wMix K Wo D r k d u G)
inductive Clauses (X : Cx) : List ExceptHandler → List (Value × Option Nat × Suite) → Prop
  | nil : Clauses X [] []
  | bare {x : Str} {c : Value} {t : Suite} {b : Stmt} {bs : List Stmt} {p1 p2 : Pos} {hds l} (hc : Names X x c)
      (su : ∀ e oe k d pn, Zc k d oe → (∃ vs, oe.data = .fields vs) → PSs (X.suite e ((e, oe) :: pn)) (b :: bs) (t e k d)) (r : Clauses X hds l) :
      Clauses X (.ExceptHandler (some (.Name x p1)) none (b :: bs) p2 :: hds) ((c, none, t) :: l)
  | named {x n : Str} {c : Value} {i : Nat} {t : Suite} {b : Stmt} {bs : List Stmt} {p1 p2 : Pos} {hds l} (hN : X.N.Nodup) (hi : X.N[i]? = some n) (hl : X.env.kindOf n = some .local) (hc : Names X x c)
      (su : ∀ e oe k d pn, Zc k d oe → (∃ vs, oe.data = .fields vs) → PSs (X.suite e ((e, oe) :: pn)) (b :: bs) (t e k d)) (r : Clauses X hds l) :
      Clauses X (.ExceptHandler (some (.Name x p1)) (some n) (b :: bs) p2 :: hds) ((c, some i, t) :: l)
theorem ps_try_mix {X : Cx} {body : List Stmt} {h1 : ExceptHandler} {hds : List ExceptHandler} {l : List (Value × Option Nat × Suite)} {pos : Pos} {tb : WX → TS} {Wo : WX} (hs : X.stack = X.env :: X.outer) (hf : X.env.frame = some X.env.locals) (tk : Takes X Wo)
    (hb : ∀ W pn xe, Takes (X.tr pn xe) W → PassesOwn (model X.prog X.w) X.A X.env xe → PSs (X.tr pn xe) body (tb W)) (hh : Clauses X (h1 :: hds) l) :
    PS X (.Try body (h1 :: hds) [] [] pos) (fun D u G => tb (wMix X.K Wo D l) D u G) := by
  constructor
  intro pins s u G D I h
  have ok := I.ok
  have frm : X.A.frames = some (X.env :: X.outer) := by rw [ok.frames, hs]
  refine wpAny_Try_except (wpAny_mono ((hb (wMix X.K Wo D l) (X.pn ++ pins) (fun e s₁ => wpAny (model X.prog X.w) X.A (noteFrame e X.env) (fun _ s₂ => wpAny (model X.prog X.w) X.A (setFlight e none) (fun _ s₃ => wpAny (model X.prog X.w) X.A (handleBy e X.env (h1 :: hds)) (SP X pins D) X.xe s₃) X.xe s₂) X.xe s₁) (fun v s' xx => ?_) PassesOwn.looking).run [] s u G D (I.toTry _) h) (fun f s1 z => ?_) (fun _ _ z => z))
  · obtain ⟨e, B, sI, _, u', G', k, d, rfl, J0, nb, up, sky, na, os, ag, wish⟩ := xx
    have J : Inv X pins u' G' sI := J0.ofTry ok
    refine Sky.land Zc.steady frm hf (by rw [← hs]; exact sky) fun h3 fl up3 => ?_
    have up13 := up.trans up3
    obtain ⟨o3, _, g3, z3, d3⟩ := fl.there
    have far : e ∉ frs (X.env :: X.outer) := by
      intro m
      obtain ⟨_, o', g', no⟩ := fl.2.2.1.mem m
      cases g3.symm.trans g'
      exact no _ d3
    have nl : e ≠ X.env.locals := by
      intro z
      exact far (List.mem_filterMap.mpr ⟨X.env, List.mem_cons_self, by rw [hf, z]⟩)
    have nf : e ∉ X.fs := by
      intro m
      obtain ⟨v, hv, q⟩ := List.mem_filterMap.mp m
      exact far (List.mem_filterMap.mpr ⟨v, List.mem_cons_of_mem _ hv, q⟩)
    have J3 : Inv X pins u' G' { s' with heap := h3 } := J.landed nb fl.1 up13 os ag
    have S3 := J3.suite g3 d3 na nl nf
    have TY : PySem.W.Looks (model X.prog X.w) h3 (typeOf (.ref e)) k := fun _ _ _ _ kk q => wpAny_typeOf_ref (kk _ _ g3) (z3.1 ▸ q)
    have name : ∀ {x : Str} {c : Value} {p1 : Pos}, Names X x c → ∀ {Q : Value → Shared → Prop} {E : Value → Shared → Prop}, Q c { s' with heap := h3 } → wpAny (model X.prog X.w) (X.A.mark (some (.ref e))) (eval (.Name x p1) X.env) Q E { s' with heap := h3 } := by
      rintro x c p1 ⟨g, nd, m | ⟨m, bv, nn⟩⟩ Q E q
      · exact ld_glob (X := X.suite e ((e, o3) :: (X.pn ++ pins))) S3 g m q nd
      · exact ld_blt (X := X.suite e ((e, o3) :: (X.pn ++ pins))) S3 g m bv q nn nd
    suffices go : ∀ {hd : List ExceptHandler} {l' : List (Value × Option Nat × Suite)}, Clauses X hd l' → wMix X.K Wo D l' k d u' G' → wpAny (model X.prog X.w) X.A (handleBy (.ref e) X.env hd) (SP X pins D) X.xe { s' with heap := h3 } from go hh wish
    intro hd l' cl
    induction cl with
    | nil =>
      intro wi
      refine wpAny_handleBy_nil ?_
      obtain ⟨_, _, _, oe, vs, T, oT, tt, he, hz, hdd, hT, hr⟩ := id fl
      unfold PySem.passOn
      refine wpAny_bind (wpAny_field he hdd hT ?_)
      rw [if_neg (by simp : ¬ ((Value.ref T == Value.none) = true))]
      have last : wpAny (model X.prog X.w) X.A (setFlight (.ref e) X.env.frame) (fun _ s4 => wpAny (model X.prog X.w) X.A (throw (.ref e) : Sem Flow) (SP X pins D) X.xe s4) X.xe { s' with heap := h3 } := by
        rw [hf]
        refine HandSPX.setFlight_upZ fl fun h4 hh4 up4 => wpAny_throw (tk _ _ ⟨e, B, sI, pins, u', G', k, d, rfl, J, nb, up13.trans up4, .inr (.inr ?_), na, os, ag, wi⟩)
        rw [hs]; exact hh4
      first | exact wpAny_bind (wpAny_pure (wpAny_bind last)) | exact wpAny_bind last
    | bare hc su r ih =>
      rintro ⟨y, ey, yes, no⟩
      refine wpAny_handleBy_cons (codeAny_handlers_test (name hc ((PySem.W.exm_one (M := model X.prog X.w) J3.kIn TY ey).here ?_))) (fun q => by cases q)
      cases y with
      | false => exact ih (no rfl)
      | true =>
        refine codeAny_handlers_suite (HandSPX.lands_againZ fl fun h4 fl4 up4 => ?_)
        obtain ⟨o4, _, g4, z4, d4⟩ := fl4.there
        have S4 := (J.landed (s' := { s' with heap := h4 }) nb fl4.1 (up13.trans up4) os ag).suite g4 d4 na nl nf
        refine wpAny_mono ((su e o4 k d (X.pn ++ pins) z4 ⟨_, d4⟩).run [] _ _ G' _ S4 (yes rfl e na)) (fun f s6 z => ?_) (fun _ _ z => z.elim)
        cases f with
        | ret v => obtain ⟨v6, u6, G6, S6, r6, q6⟩ := z; exact ⟨v6, u6, G6, S6.unsuite ok, r6, q6⟩
        | _ => obtain ⟨u6, G6, S6, q6⟩ := z; exact ⟨u6, G6, S6.unsuite ok, q6⟩
    | @named _ n c i _ _ _ _ p2 _ _ hN hi hl hc su r ih =>
      rintro ⟨y, ey, yes, no⟩
      refine wpAny_handleBy_cons (codeAny_handlers_test (name hc ((PySem.W.exm_one (M := model X.prog X.w) J3.kIn TY ey).here ?_))) (fun q => by cases q)
      cases y with
      | false => exact ih (no rfl)
      | true =>
        refine codeAny_handlers_suite_as (HandSPX.lands_againZ fl fun h4 fl4 up4 => ?_)
        obtain ⟨o4, _, g4, z4, d4⟩ := fl4.there
        have S4 := (J.landed (s' := { s' with heap := h4 }) nb fl4.1 (up13.trans up4) os ag).suite g4 d4 na nl nf
        refine store_ok (X := X.suite e ((e, o4) :: (X.pn ++ pins))) (v := .ref e) S4 hN hi (.inl hl) rfl (fun s5 S5 => wpAny_mono ((su e o4 k d (X.pn ++ pins) z4 ⟨_, d4⟩).run [] s5 _ G' _ S5 (yes rfl e na)) (fun f s6 z => ?_) (fun _ _ z => z.elim)) (.inr hl)
        have off : ∀ {u6 : L2.St} {G6 : Hp} {Q : Shared → Prop}, Inv (X.suite e ((e, o4) :: (X.pn ++ pins))) [] u6 G6 s6 → (∀ s7, Inv X pins (u6.set i none) G6 s7 → Q s7) → wpAny (model X.prog X.w) X.A (do bindName X.env n .none; unbindBehindTheSuite X.env n p2) (fun _ s7 => Q s7) X.xe s6 := fun S6 hq => gone_ok (S6.unsuite ok) hN hi hl hq
        cases f with
        | ret v => obtain ⟨v6, u6, G6, S6, r6, q6⟩ := z; exact off S6 fun s7 J7 => ⟨v6, _, G6, J7, r6, q6⟩
        | _ => obtain ⟨u6, G6, S6, q6⟩ := z; exact off S6 fun s7 J7 => ⟨_, G6, J7, q6⟩
  · cases f with
    | next => obtain ⟨u6, G6, J6, q6⟩ := z; exact wpAny_execs_nil ⟨u6, G6, J6.ofTry ok, q6⟩
    | ret v => obtain ⟨v6, u6, G6, J6, r6, q6⟩ := z; exact ⟨v6, u6, G6, J6.ofTry ok, r6, q6⟩
    | _ => obtain ⟨u6, G6, J6, q6⟩ := z; exact ⟨u6, G6, J6.ofTry ok, q6⟩
/-! ### isinstance of a caught error, of one class of several -/
def rIsEs (K : PySem.W.Frag) (k : Value) (d : Option Addr) (e : Addr) : List V → Hp → VK → Prop := fun xs H Q =>
  ∃ (D tp : Addr) (cs : List V) (us : List Value) (b : Bool), k = .ref D ∧ d = none ∧ ExcC K D ∧ xs = [.ref e, .ref tp] ∧ H tp = some (.tup cs) ∧ Paired ClsV cs us ∧ PySem.W.kitAny K (.ref D) us = some b ∧ Q (.bl b) H
theorem call_isEs {X : Cx} {K : PySem.W.Frag} {e : Addr} {oe : Obj} {k : Value} {d : Option Addr} {pn : List (Addr × Obj)} (hK : X.K = K) (hz : Zc k d oe) (hf : ∃ vs, oe.data = .fields vs) : CallR (X.suite e ((e, oe) :: pn)) (.builtin "isinstance") (rIsEs K k d e) := by
  subst hK
  intro pins s σ H xs us Q I r h
  obtain ⟨D, tp, cs, ws, b, rfl, rfl, C, rfl, hT, pr, ka, q⟩ := h
  obtain ⟨u1, u2, rfl, r1, r2⟩ := vals2 r
  cases r1
  cases (show u2 = Value.ref tp from r2)
  obtain ⟨_, its, rv, o, o1, o2, n, o3⟩ := (show ObjOk _ _ H s.heap tp (.tup cs) from I.hok tp _ hT)
  have eq := ClsV.all pr rv
  subst eq
  obtain ⟨oc, od, dt, sl⟩ := o
  simp only at o2 o3
  subst o2 o3
  obtain ⟨vs, hv⟩ := hf
  have there := (I.pin (e, oe) (List.mem_append.mpr (.inl List.mem_cons_self))).1
  have J : PySem.W.InstAt s.heap e oe D none := by
    obtain ⟨_, _, _, _⟩ := oe
    obtain ⟨z1, z2⟩ := hz
    dsimp only at z1 z2 hv
    subst z1 z2 hv
    exact ⟨there, rfl, rfl, trivial⟩
  exact PySem.W.kia_tup (PySem.W.handS_kitx_exc C.hg C.hk C.hs C.hd C.ha C.hn C.ht C.hm) I.kIn J o1 ka (fun z => nomatch z) fun tk => ⟨.bl b, H, I.kept (t' := tk) fun _ _ z => z, rfl, q⟩
/-! ### a call of what a slot holds, inside a try -/
def tCallLS (W : WX) (i : Nat) (f : Addr) (sp : Sp) (t : TA) : TE := fun u G Q => u[i]? = some (some (.ref f)) ∧ t u G fun vs G1 => sp vs G1 Q (WE W u)
theorem pe_callLS {X : Cx} {C : CXT} {k i : Nat} {f : Addr} {fd : FuncData} {ps : List Str} {sp : Sp} {W : WX} {x : Str} {p pos : Pos} {e : Expr} {es : List Expr} {t : TA} (F : FnOk X.prog X.w X.K X.mg X.base C k f fd ps sp) (hr : Room k X.A) (hN : X.N[i]? = some x) (hv : Vis X.env.scope x)
    (hk : PySem.W.keepIn X.K (.ref f) = true) (hb : Binds X.K fd ps []) (hx : ∀ u, PassesAt C X u (WE W u)) (ha : PA X (e :: es) t) (n1 : (x == ("__debug__" : Str)) = false := by decide) (n2 : (x == ("__classdict__" : Str)) = false := by decide)
    (he : starEach (e :: es) X.env = (false, eval e X.env) :: starEach es X.env := by rfl) (hp : (backTo pos (starEach es X.env)).any (·.1) = false := by rfl) : PE X (.Call (.Name x p) (e :: es) [] pos) (tCallLS W i f sp t) := by
  constructor
  rintro pins s u G Q I ⟨hs, ht⟩
  refine wpAny_Call_Name_kw (thn ((pe_var (pos := p) hN hv n1 n2).run pins s u G (fun v G1 => v = .ref f ∧ G1 = G) I ⟨.ref f, hs, rfl, rfl⟩) ?_)
  rintro v s1 ⟨_, _, I1, r1, rfl, rfl⟩
  cases r1
  refine PySem.W.callWith_K (h₀ := X.base) I.ok.mod.kin hk (thn (ha.run pos pins s1 u _ _ I1 ht) fun us s2 z => ?_) he hp
  obtain ⟨vs, G2, I2, r, q⟩ := z
  exact ⟨I2.kIn, run_fnS (E := WE W) F hr hb (hx u) I2 r q⟩
/-! ### a method of an object whose class is one of several -/
theorem pe_either {X : Cx} {e : Expr} {t u : TE} (h : PE X e t) (k : PE X e u) : PE X e (fun σ H Q => t σ H Q ∨ u σ H Q) := ⟨fun pins s σ H Q I q => q.elim (h.run pins s σ H Q I) (k.run pins s σ H Q I)⟩
/-! ### lists of whole numbers as data -/
theorem dpInts {K : PySem.W.Frag} {H : Hp} : ∀ ns : List Int, DpAll K H (ns.map V.int) (ns.map PyData.int)
  | [] => .nil
  | n :: ns => .cons (.int n) (dpInts ns)
theorem layInts : ∀ ns : List Int, PyData.canLayAll0 (ns.map PyData.int) = true
  | [] => rfl
  | n :: ns => by simp [PyData.canLayAll0, PyData.canLay0, layInts ns]
theorem depInts : ∀ ns : List Int, PyData.depthAll (ns.map PyData.int) = 0
  | [] => rfl
  | n :: ns => by simp [PyData.depthAll, PyData.depth, depInts ns]
theorem shapedL (ns : List Int) : SeqAt.shaped (.list (ns.map PyData.int)) = true := by
  show (PyData.canLayAll0 (ns.map PyData.int) && decide (PyData.depthAll (ns.map PyData.int) + 1 ≤ 64)) = true
  rw [layInts, depInts]; rfl
theorem shapedT (ns : List Int) : SeqAt.shaped (.tuple (ns.map PyData.int)) = true := by
  show (PyData.canLayAll0 (ns.map PyData.int) && decide (PyData.depthAll (ns.map PyData.int) + 1 ≤ 64)) = true
  rw [layInts, depInts]; rfl
theorem neqInts {K : PySem.W.Frag} {H : Hp} {Q : VK} {p q : Addr} {ns ms : List Int} (h1 : SqL K H p (ns.map V.int)) (h2 : SqL K H q (ms.map V.int)) (k : Q (.bl (!decide (ns = ms))) H) : rNeD K (.ref p) (.ref q) H Q := by
  refine ⟨_, _, .lst h1 (dpInts ns), .lst h2 (dpInts ms), shapedL ns, shapedL ms, ?_⟩
  have e : PyData.eqv (.list (ns.map PyData.int)) (.list (ms.map PyData.int)) = decide (ns = ms) := by
    rw [PyData.eqv]; exact PySem.W.ked_eqvAll ns ms
  rw [e]; exact k
theorem eqInts {K : PySem.W.Frag} {H : Hp} {Q : VK} {p q : Addr} {ns ms : List Int} (h1 : SqL K H p (ns.map V.int)) (h2 : SqL K H q (ms.map V.int)) (k : Q (.bl (decide (ns = ms))) H) : rEqD K (.ref p) (.ref q) H Q := by
  refine ⟨_, _, .lst h1 (dpInts ns), .lst h2 (dpInts ms), shapedL ns, shapedL ms, ?_⟩
  have e : PyData.eqv (.list (ns.map PyData.int)) (.list (ms.map PyData.int)) = decide (ns = ms) := by
    rw [PyData.eqv]; exact PySem.W.ked_eqvAll ns ms
  rw [e]; exact k
theorem neqIntsT {K : PySem.W.Frag} {H : Hp} {Q : VK} {p q : Addr} {ns ms : List Int} (h1 : SqT K H p (ns.map V.int)) (h2 : SqT K H q (ms.map V.int)) (k : Q (.bl (!decide (ns = ms))) H) : rNeD K (.ref p) (.ref q) H Q := by
  refine ⟨_, _, .tup h1 (dpInts ns), .tup h2 (dpInts ms), shapedT ns, shapedT ms, ?_⟩
  have e : PyData.eqv (.tuple (ns.map PyData.int)) (.tuple (ms.map PyData.int)) = decide (ns = ms) := by
    rw [PyData.eqv]; exact PySem.W.ked_eqvAll ns ms
  rw [e]; exact k
theorem eqIntsT {K : PySem.W.Frag} {H : Hp} {Q : VK} {p q : Addr} {ns ms : List Int} (h1 : SqT K H p (ns.map V.int)) (h2 : SqT K H q (ms.map V.int)) (k : Q (.bl (decide (ns = ms))) H) : rEqD K (.ref p) (.ref q) H Q := by
  refine ⟨_, _, .tup h1 (dpInts ns), .tup h2 (dpInts ms), shapedT ns, shapedT ms, ?_⟩
  have e : PyData.eqv (.tuple (ns.map PyData.int)) (.tuple (ms.map PyData.int)) = decide (ns = ms) := by
    rw [PyData.eqv]; exact PySem.W.ked_eqvAll ns ms
  rw [e]; exact k
/-! ### slices -/
theorem cutV_mem {xs : List V} {lo hi : Option Int} {v : V} (h : v ∈ cutV xs lo hi) : v ∈ xs := List.mem_of_mem_drop (List.mem_of_mem_take h)
theorem cutV_lo {xs : List V} {n : Int} (h0 : 0 ≤ n) (h1 : n ≤ xs.length) : cutV xs (some n) none = xs.drop n.toNat := by
  have e : HT.sIx xs.length 0 (some n) = n.toNat := by
    have q : n = ((n.toNat : Nat) : Int) := by omega
    rw [q, HT.sIx_nat]
    omega
  unfold cutV
  rw [e, HT.sIx_none]
  exact List.take_of_length_le (by rw [List.length_drop]; exact Nat.le_refl _)
theorem cutV_hi {xs : List V} {n : Int} (h0 : 0 ≤ n) (h1 : n ≤ xs.length) : cutV xs none (some n) = xs.take n.toNat := by
  have e : HT.sIx xs.length xs.length (some n) = n.toNat := by
    have q : n = ((n.toNat : Nat) : Int) := by omega
    rw [q, HT.sIx_nat]
    omega
  unfold cutV
  rw [e, HT.sIx_none]
  rfl
/-! ### what a thing is, as far as it matters: a whole number or of one of the other kinds -/
def others : List String := ["bool", "NoneType", "str", "tuple", "list", "dict"]
inductive Thing (K : PySem.W.Frag) (H : Hp) : V → Prop where
  | int (i : Int) : Thing K H (.int i)
  | odd {v : V} {t : String} (ty : TyX K H v (.type t)) (m : t ∈ others) (n : isI v = false) : Thing K H v
def spNumber (K : PySem.W.Frag) : Sp := fun vs H Q _ => ∃ v, vs = [v] ∧ Thing K H v ∧ Q (.bl (isI v)) H
/-! ### what a thing is stays so -/
theorem TyX.keep {K : PySem.W.Frag} {H H' : Hp} {v : V} {t : Value} (f : ∀ b o, v = .ref b → H b = some o → H' b = some o) (h : TyX K H v t) : TyX K H' v t := by
  cases h with
  | base b =>
    refine .base ?_
    cases b with
    | non => exact .non
    | bl x => exact .bl x
    | int i => exact .int i
    | str x => exact .str x
    | flt x => exact .flt x
    | lst e => exact .lst (f _ _ rfl e)
    | frz e => exact .frz (f _ _ rfl e)
    | tup e => exact .tup (f _ _ rfl e)
    | dK e => exact .dK (f _ _ rfl e)
    | dT e => exact .dT (f _ _ rfl e)
    | ins e a b c d g => exact .ins (f _ _ rfl e) a b c d g
  | byt b => exact .byt b
  | set e => exact .set (f _ _ rfl e)
  | kList e c => exact .kList e c
  | kTuple e c => exact .kTuple e c
  | kDict e c => exact .kDict e c
  | fTuple e => exact .fTuple (f _ _ rfl e)
  | fDict e => exact .fDict (f _ _ rfl e)
theorem Thing.keep {K : PySem.W.Frag} {H H' : Hp} {v : V} (f : ∀ b o, v = .ref b → H b = some o → H' b = some o) (h : Thing K H v) : Thing K H' v := by
  cases h with
  | int i => exact .int i
  | odd ty m n => exact .odd (TyX.keep f ty) m n
/-! ### the drawn figures -/
def IsSt (xs : List V) : Prop := (∃ x, xs = [.int x]) ∨ ∃ x y z, xs = [.int x, .int y, .int z]
def spDigit : Sp := fun vs H Q _ => ∃ (p : Addr) (xs : List V) (b : Int), vs = [.ref p, .int b] ∧ H p = some (.lst xs) ∧ IsSt xs ∧ 0 < b ∧ b < 1073741824 ∧
  ∀ H' d xs', Frm p H H' → H' p = some (.lst xs') → IsSt xs' → 0 ≤ d → d < b → Q (.int d) H'
/-! ### rows of bytes -/
def inB (lo hi : Int) : V → Bool
  | .int i => decide (lo ≤ i) && decide (i ≤ hi)
  | _ => false
theorem inB_odd {lo hi : Int} {v : V} (h : isI v = false) : inB lo hi v = false := by
  cases v <;> first | rfl | cases h
def spWhole (K : PySem.W.Frag) : Sp := fun vs H Q _ => ∃ v lo hi, vs = [v, .int lo, .int hi] ∧ Thing K H v ∧ Q (.bl (inB lo hi v)) H
def nolist : List String := ["bool", "NoneType", "str", "tuple", "dict", "int"]
def spBytes (K : PySem.W.Frag) : Sp := fun vs H Q _ => ∃ v, vs = [v] ∧
  ((∃ a xs, v = .ref a ∧ H a = some (.lst xs) ∧ (∀ x ∈ xs, Thing K H x) ∧ Q (.bl (xs.all (inB 0 255))) H) ∨ (∃ t, TyX K H v (.type t) ∧ t ∈ nolist ∧ Q (.bl false) H))
/-- a thing that is no row of bytes, seen so in H -/
inductive Bad (K : PySem.W.Frag) (H : Hp) : V → Prop where
  | lst {a : Addr} {xs : List V} (e : H a = some (.lst xs)) (t : ∀ x ∈ xs, Thing K H x) (n : xs.all (inB 0 255) = false) : Bad K H (.ref a)
  | odd {v : V} {t : String} (ty : TyX K H v (.type t)) (m : t ∈ nolist) : Bad K H v
theorem Bad.same {K : PySem.W.Frag} {H H' : Hp} {v : V} (f : Same H H') (h : Bad K H v) : Bad K H' v := by
  cases h with
  | lst e t n => exact .lst (f _ _ e) (fun x hx => (t x hx).keep fun b o _ h => f b o h) n
  | odd ty m => exact .odd (TyX.keep (fun b o _ h => f b o h) ty) m
/-! ### rows of bytes as lists of values -/
def Row (xs : List V) : Prop := xs.all (inB 0 255) = true
def numV : V → Int
  | .int i => i
  | _ => 0
theorem inB_int {lo hi : Int} {v : V} (h : inB lo hi v = true) : ∃ n, v = .int n ∧ lo ≤ n ∧ n ≤ hi := by
  cases v with
  | int i =>
    have h2 : (decide (lo ≤ i) && decide (i ≤ hi)) = true := h
    rw [Bool.and_eq_true] at h2
    exact ⟨i, rfl, of_decide_eq_true h2.1, of_decide_eq_true h2.2⟩
  | _ => cases h
theorem int_inB {lo hi n : Int} (h0 : lo ≤ n) (h1 : n ≤ hi) : inB lo hi (.int n) = true := by
  show (decide (lo ≤ n) && decide (n ≤ hi)) = true
  rw [decide_eq_true h0, decide_eq_true h1]; rfl
theorem Row.mem {xs : List V} (h : Row xs) {v : V} (m : v ∈ xs) : ∃ n, v = .int n ∧ 0 ≤ n ∧ n ≤ 255 := inB_int (List.all_eq_true.mp h v m)
theorem Row.at {xs : List V} (h : Row xs) {i : Nat} {v : V} (e : xs[i]? = some v) : ∃ n, v = .int n ∧ 0 ≤ n ∧ n ≤ 255 := h.mem (List.mem_of_getElem? e)
theorem Row.of {xs : List V} (h : ∀ v ∈ xs, ∃ n, v = .int n ∧ 0 ≤ n ∧ n ≤ 255) : Row xs := List.all_eq_true.mpr fun v m => by
  obtain ⟨n, rfl, n0, n1⟩ := h v m
  exact int_inB n0 n1
theorem Row.sub {xs ys : List V} (h : Row xs) (s : ∀ v ∈ ys, v ∈ xs) : Row ys := Row.of fun v m => h.mem (s v m)
theorem Row.nil : Row [] := rfl
theorem Row.app {xs ys : List V} (a : Row xs) (b : Row ys) : Row (xs ++ ys) := by
  unfold Row at *
  rw [List.all_append, a, b]; rfl
theorem Row.one {n : Int} (h0 : 0 ≤ n) (h1 : n ≤ 255) : Row [.int n] := Row.of fun v m => ⟨n, List.mem_singleton.mp m, h0, h1⟩
theorem Row.cut {xs : List V} {lo hi : Option Int} (h : Row xs) : Row (cutV xs lo hi) := h.sub fun _ m => cutV_mem m
theorem Row.rev {xs : List V} (h : Row xs) : Row xs.reverse := h.sub fun _ m => List.mem_reverse.mp m
theorem Row.ints {xs : List V} (h : Row xs) : ∃ ns : List Int, xs = ns.map V.int := by
  refine ⟨xs.map numV, ?_⟩
  rw [List.map_map]
  have e : xs.map (V.int ∘ numV) = xs.map id := List.map_congr_left fun v m => by
    obtain ⟨n, rfl, _⟩ := h.mem m
    rfl
  rw [e, List.map_id]
theorem Row.things {K : PySem.W.Frag} {H : Hp} {xs : List V} (h : Row xs) : ∀ x ∈ xs, Thing K H x := fun v m => by
  obtain ⟨n, rfl, _⟩ := h.mem m
  exact .int n
theorem neqRow {K : PySem.W.Frag} {H : Hp} {Q : VK} {p q : Addr} {xs : List V} (r : Row xs) (h1 : SqL K H p xs) (h2 : SqL K H q xs) (k : Q (.bl false) H) : rNeD K (.ref p) (.ref q) H Q := by
  obtain ⟨ns, rfl⟩ := r.ints
  refine neqInts h1 h2 ?_
  rw [decide_eq_true (rfl : ns = ns)]
  exact k
/-- a row with a thing amid that is no byte -/
theorem spoilt {xs ys : List V} {v : V} (h : inB 0 255 v = false) : (xs ++ [v] ++ ys).all (inB 0 255) = false := by
  rw [List.all_append, List.all_append]
  have : [v].all (inB 0 255) = false := by
    show (inB 0 255 v && true) = false
    rw [h]; rfl
  rw [this]
  simp
local macro_rules | `(tactic| walk_at "sm") => `(tactic| first
  | assumption
  | exact (show Sm 64 _ by unfold Sm; decide)
  | (refine' Sm.mul ?m1 ?m2; (case m1 => walk_at "sm"); (case m2 => walk_at "sm"))
  | (refine' Sm.add ?m1 ?m2; (case m1 => walk_at "sm"); (case m2 => walk_at "sm"))
  | (refine' Sm.sub ?m1 ?m2; (case m1 => walk_at "sm"); (case m2 => walk_at "sm"))
  | (refine' Sm.neg ?m1; (case m1 => walk_at "sm"))
  | fail)
local macro_rules | `(tactic| walk_at "ne") => `(tactic| first
  | assumption
  | exact Ne.symm (by assumption)
  | (refine' new_ne ?n1 ?n2; (case n1 => assumption); (case n2 => walk_at "hp"))
  | (refine' Ne.symm (new_ne ?n1 ?n2); (case n1 => assumption); (case n2 => walk_at "hp"))
  | fail)
local macro_rules | `(tactic| walk_at "hp") => `(tactic| first
  | assumption
  | exact upd_same
  | (refine' upd_old ?na ?ho; (case na => assumption); (case ho => walk_at "hp"))
  | (refine' upd_old2 ?na ?ho; (case na => assumption); (case ho => walk_at "hp"))
  | (refine' upd_oth ?na ?ho; (case na => walk_at "ne"); (case ho => walk_at "hp"))
  | (refine' Same.get ?na ?ho; (case na => assumption); (case ho => walk_at "hp"))
  | (refine' Frm.get ?na ?nb ?ho; (case na => assumption); (case nb => walk_at "ne"); (case ho => walk_at "hp"))
  | fail)
local macro_rules | `(tactic| walk_at "fr") => `(tactic| first
  | assumption
  | exact Frm.refl
  | exact Same.refl _
  | (refine' Frm.upd2 ?f; (case f => walk_at "fr"))
  | (refine' Frm.new ?f ?n; (case n => assumption); (case f => walk_at "fr"))
  | (refine' Frm.new2 ?f ?n; (case n => assumption); (case f => walk_at "fr"))
  | (refine' Frm.own ?f ?n; (case n => assumption); (case f => walk_at "fr"))
  | (refine' Frm.trans ?f ?g; (case g => first | assumption | exact Same.frm (by assumption)); (case f => walk_at "fr"))
  | (refine' Same.new ?f ?n; (case n => assumption); (case f => walk_at "fr"))
  | (refine' Same.new2 ?f ?n; (case n => assumption); (case f => walk_at "fr"))
  | (refine' Same.own ?f ?n; (case n => assumption); (case f => walk_at "fr"))
  | (refine' Same.trans ?f ?g; (case g => assumption); (case f => walk_at "fr"))
  | (refine' Same.byFrm ?f ?g ?n; (case g => assumption); (case n => assumption); (case f => walk_at "fr"))
  | fail)
/-- one step of a reading, where its form alone tells it -/
local macro_rules | `(tactic| walk_at "g") => `(tactic| first
  | refine ⟨_, rfl, ?_⟩
  | refine ⟨_, _, rfl, rfl, ?_⟩
  | refine ⟨rfl, ?_⟩
  | refine ⟨sz rfl, fun _ _ => ?_⟩
  | refine ⟨.inl ⟨rfl, _, SqL.of (by walk_at "hp")⟩, ?_⟩
  | refine ⟨_, _, rfl, .inl (SqL.of (by walk_at "hp")), ?_⟩
  | refine ⟨_, _, rfl, .inr (SqT.of (by walk_at "hp")), ?_⟩
  | refine ⟨_, _, rfl, SqL.of (by walk_at "hp"), fun _ _ => ?_⟩
  | refine ⟨_, _, _, _, rfl, rfl, SqL.of (by walk_at "hp"), rfl, ?_⟩
  | refine ⟨_, _, _, _, rfl, rfl, SqT.of (by walk_at "hp"), rfl, ?_⟩
  | refine ⟨(show (0 : Int) < _ by first | decide | assumption), ?_⟩
  | refine ⟨⟨(show (0 : Int) < _ by first | decide | assumption), by first | decide | assumption⟩, ?_⟩
  | refine ⟨⟨(show (0 : Int) ≤ _ by decide), by decide, by decide⟩, ?_⟩
  | refine ⟨_, _, _, _, rfl, rfl, by walk_at "hp", by walk_at "hp", sz rfl, ?_⟩
  | refine ⟨_, _, _, _, rfl, rfl, by walk_at "hp", rfl, ?_⟩
  | refine ⟨(show CMul _ _ by first | exact .inl ⟨by decide, by decide⟩ | exact .inr ⟨by decide, by decide⟩ | exact .inl ⟨by omega, by omega⟩ | exact .inr ⟨by omega, by omega⟩), ?_⟩
  | refine ⟨(show CMulW _ _ from Sm.mulok (by walk_at "sm") (by walk_at "sm") (by decide) (by decide)), ?_⟩
  | refine ⟨(show CDivZ _ _ from ⟨by first | assumption | omega, Sm.mono (by walk_at "sm") (by decide)⟩), ?_⟩
  | fail)
/-- a drawn figure: a call of digit -/
local macro_rules | `(tactic| walk_at "dg") => `(tactic| (refine ⟨_, _, _, rfl, by walk_at "hp", by assumption, by first | decide | omega, by first | decide | omega, fun _ _ _ _ _ _ _ _ => ?_⟩))
/-- a list's item at a drawn place -/
local macro_rules | `(tactic| walk_at "ixI") => `(tactic| (refine' ixI (SqL.of ?h) ?h0 ?h1 ?al (fun _ _ => ?k); (case h => walk_at "hp"); (case al => rfl); (case h0 => first | assumption | omega); (case h1 => first | assumption | (simp only [List.length]; omega))))
def spRefuse (K : PySem.W.Frag) (C : Addr) : Sp := fun vs H Q E => ∃ v, vs = [v] ∧
  ((∃ a xs, v = .ref a ∧ H a = some (.lst xs) ∧ Row xs ∧ Q .non H) ∨ (Bad K H v ∧ E (.ref C) none H))
def spOdd (K : PySem.W.Frag) : Sp := fun vs H Q _ => ∃ (p r : Addr) (xs zs : List V), vs = [.ref p, .ref r] ∧ H p = some (.lst xs) ∧ IsSt xs ∧ H r = some (.lst zs) ∧ Row zs ∧ zs.length ≤ 900 ∧ r ≠ p ∧
  ∀ H' v xs', Frm p H H' → H' p = some (.lst xs') → IsSt xs' → Bad K H' v → Q v H'
def spLBytes : Sp := fun vs H Q _ => ∃ (p : Addr) (xs : List V) (m : Int), vs = [.ref p, .int m] ∧ H p = some (.lst xs) ∧ IsSt xs ∧ 0 ≤ m ∧ m ≤ 900 ∧
  ∀ H' (q : Addr) xs' zs, Frm p H H' → H' p = some (.lst xs') → IsSt xs' → H' q = some (.lst zs) → H q = none → Row zs → zs.length = m.toNat → Q (.ref q) H'
section
variable {P : Program} {w : World} {K : PySem.W.Frag} {mg : Str → Option Value} {base : Heap}
theorem ok_l_digit (T : Txt K mg) : FnOk P w K mg base CX0 1 T.a_l_digit T.d_l_digit ["_law_state", "_law_base"] spDigit := by
  refine T.F_l_digit.ok sc_l_digit (fun vs H Q E h => ?_) (fun cdv A outer s H vs Q E hr h => ?_)
  · obtain ⟨p, xs, b, rfl, _⟩ := h
    rfl
  · obtain ⟨p, xs, b, rfl, hp, hx, b0, b1, q⟩ := h
    refine ⟨_, (pss_cons (ps_if (pt_cmpR op_eq (pe_callB call_len_seq (by rfl) T.m_len (by decide +kernel) (pa_cons (pv 0) pa_nil)) pe_int (nomark _)) (pss_one (ps_expr (pe_bm PySem.F.plainAttrs_list PySem.F.slot_list_extend PySem.F.type_list_extend mt_extend (pv 0) (pa_cons (pe_lst (pa_cons (pe_op op_mod (pe_ix ix_list (pv 0) pe_int (fun _ _ => rfl)) pe_int) (pa_cons pe_int pa_nil))) pa_nil)))) pss_nil)
      (pss_cons (ps_if (pt_cmpR op_ge (pe_ix ix_list (pv 0) pe_int (fun _ _ => rfl)) (pv 1) (nomark _)) (pss_cons (ps_set (i := 2) sc_l_digit.nd rfl (Or.inl rfl) (pe_op op_mod (pe_ix ix_list (pv 0) pe_int (fun _ _ => rfl)) (pv 1)))
      (pss_cons (ps_asg (pe_op op_fdiv (pe_ix ix_list (pv 0) pe_int (fun _ _ => rfl)) (pv 1)) (pg_sub (pv 0) pe_int set_list))
      (pss_one (ps_ret (pv 2))))) pss_nil)
      (pss_cons (ps_asg (pe_op op_add (pe_ix ix_list (pv 0) pe_int (fun _ _ => rfl)) pe_int) (pg_sub (pv 0) pe_int set_list))
      (pss_cons (ps_set (i := 3) sc_l_digit.nd rfl (Or.inl rfl) (pe_op op_mod (pe_op op_mul (pe_op op_add (pe_op op_add (pe_ix ix_list (pv 0) pe_int (fun _ _ => rfl)) (pe_op op_mul pe_int (pe_ix ix_list (pv 0) pe_int (fun _ _ => rfl)))) pe_int) pe_int) pe_int))
      (pss_cons (ps_set (i := 3) sc_l_digit.nd rfl (Or.inl rfl) (pe_op op_mod (pe_op op_mul (pv 3) (pe_op op_add (pe_op op_fdiv (pv 3) pe_int) pe_int)) pe_int))
      (pss_one (ps_ret (pe_op op_mod (pe_op op_mod (pe_op op_mul (pv 3) (pe_op op_add (pe_op op_fdiv (pv 3) pe_int) pe_int)) pe_int) (pv 1))))))))), ?_⟩
    rcases hx with ⟨x, rfl⟩ | ⟨x, y, z, rfl⟩
    all_goals
      repeat' walk_at "g"
      refine ite2 (fun c => ?_) (fun c => ?_)
      · repeat' walk_at "g"
        exact q _ _ _ (by walk_at "fr") upd_same (.inr ⟨_, _, _, rfl⟩) (Int.emod_nonneg _ (by omega)) (Int.emod_lt_of_pos _ b0)
      · repeat' walk_at "g"
        exact q _ _ _ (by walk_at "fr") upd_same (.inr ⟨_, _, _, rfl⟩) (Int.emod_nonneg _ (by omega)) (Int.emod_lt_of_pos _ b0)
theorem ok_is_number (T : Txt K mg) : FnOk P w K mg base CX0 1 T.a_is_number T.d_is_number ["thing"] (spNumber K) := by
  refine T.F_is_number.ok sc_is_number (fun vs H Q E h => ?_) (fun cdv A outer s H vs Q E hr h => ?_)
  · obtain ⟨v, rfl, _⟩ := h
    rfl
  · obtain ⟨v, rfl, hv, q⟩ := h
    refine ⟨_, (pss_one (ps_ret (pe_and (pe_callB call_isi (by rfl) T.m_isinstance (by decide +kernel) (pa_cons (pv 0) (pa_cons (pe_bltn (v := .ty "int") (by rfl) T.m_int (by decide +kernel) rfl) pa_nil))) (pe_one (pe_not (pe_callB call_isi (by rfl) T.m_isinstance (by decide +kernel) (pa_cons (pv 0) (pa_cons (pe_bltn (v := .ty "bool") (by rfl) T.m_bool (by decide +kernel) rfl) pa_nil)))))))), ?_⟩
    repeat' walk_at "g"
    cases hv with
    | int i =>
      refine ⟨_, _, _, _, true, rfl, .ty _, .base (.int i), kit_ty (by decide +kernel), _, rfl, ifT rfl ?_⟩
      repeat' walk_at "g"
      exact ⟨_, _, _, _, false, rfl, .ty _, .base (.int i), kit_ty (by decide +kernel), _, rfl, q⟩
    | @odd _ t ty m n =>
      rw [n] at q
      simp only [others, List.mem_cons, List.not_mem_nil, or_false] at m
      rcases m with rfl | rfl | rfl | rfl | rfl | rfl
      · refine ⟨_, _, _, _, true, rfl, .ty _, ty, kit_ty (by decide +kernel), _, rfl, ifT rfl ?_⟩
        repeat' walk_at "g"
        exact ⟨_, _, _, _, true, rfl, .ty _, ty, kit_ty (by decide +kernel), _, rfl, q⟩
      all_goals exact ⟨_, _, _, _, false, rfl, .ty _, ty, kit_ty (by decide +kernel), _, rfl, ifF rfl q⟩
theorem ok_is_whole (T : Txt K mg) : FnOk P w K mg base CX0 2 T.a_is_whole T.d_is_whole ["thing", "low", "high"] (spWhole K) := by
  refine T.F_is_whole.ok sc_is_whole (fun vs H Q E h => ?_) (fun cdv A outer s H vs Q E hr h => ?_)
  · obtain ⟨v, lo, hi, rfl, _⟩ := h
    rfl
  · obtain ⟨v, lo, hi, rfl, hv, q⟩ := h
    refine ⟨_, (pss_one (ps_ret (pe_and (pe_call (ok_is_number T) (hr.mono (by decide)) (by rfl) T.g_is_number T.F_is_number.kp T.b_is_number .nil pass0 (pa_cons (pv 0) pa_nil)) (pe_one (pe_chainI op_le op_le (pv 1) (pv 0) (pv 2) mn_var mn_var mn_var sh_var))))), ?_⟩
    refine ⟨_, rfl, v, rfl, hv, _, rfl, ?_⟩
    cases hv with
    | int i =>
      refine ifT rfl ?_
      repeat' walk_at "g"
      exact ⟨_, _, _, rfl, rfl, rfl, rfl, q⟩
    | odd ty m n =>
      rw [inB_odd n] at q
      exact ifF n q
theorem ok_is_bytes (T : Txt K mg) : FnOk P w K mg base CX0 3 T.a_is_bytes T.d_is_bytes ["thing"] (spBytes K) := by
  refine T.F_is_bytes.ok sc_is_bytes (fun vs H Q E h => ?_) (fun cdv A outer s H vs Q E hr h => ?_)
  · obtain ⟨v, rfl, _⟩ := h
    rfl
  · obtain ⟨v, rfl, h⟩ := h
    refine ⟨_, (pss_cons (ps_if (pt_not (pt_val (pe_callB call_isi (by rfl) T.m_isinstance (by decide +kernel) (pa_cons (pv 0) (pa_cons (pe_bltn (v := .ty "list") (by rfl) T.m_list (by decide +kernel) rfl) pa_nil))))) (pss_one (ps_ret pe_bl)) pss_nil)
      (pss_cons (ps_for PassesOwn.never rfl (pi_list (pv 0)) (pg_name (i := 1) sc_is_bytes.nd rfl (Or.inl rfl))
        (pss_one (ps_if (pt_not (pt_val (pe_call (ok_is_whole T) (hr.mono (by decide)) (by rfl) T.g_is_whole T.F_is_whole.kp T.b_is_whole .nil pass0 (pa_cons (pv 1) (pa_cons pe_int (pa_cons pe_int pa_nil)))))) (pss_one (ps_ret pe_bl)) pss_nil)))
      (pss_one (ps_ret pe_bl)))), ?_⟩
    repeat' walk_at "g"
    rcases h with ⟨a, xs, rfl, ha, hx, q⟩ | ⟨t, ty, m, q⟩
    · refine ⟨_, _, _, _, true, rfl, .ty _, .base (.lst ha), kit_ty (by decide +kernel), _, rfl, ifF rfl ?_⟩
      refine ⟨_, rfl, _, rfl, ⟨_, SqL.of ha⟩, for_list (K := K) (a := a) (xs := xs) (fun i σ H' => H' = H ∧ (xs.take i).all (inB 0 255) = true ∧ ∃ y, σ = [some (.ref a), y]) ⟨rfl, by simp, _, rfl⟩ (fun i σ H' _ ⟨e, _⟩ => e ▸ SqL.of ha) ?_ ?_⟩
      · rintro i x σ H' hi ⟨rfl, hall, y, rfl⟩
        have hm : x ∈ xs := List.mem_of_getElem? hi
        repeat' walk_at "g"
        refine ⟨_, _, _, rfl, hx x hm, _, rfl, ?_⟩
        refine ifC (fun c => ?_) (fun c => ?_)
        · have c2 : inB 0 255 x = false := by simpa using c
          have e : xs.all (inB 0 255) = false := List.all_eq_false.mpr ⟨x, hm, by rw [c2]; simp⟩
          rw [e] at q
          exact q
        · have c2 : inB 0 255 x = true := by simpa using c
          refine ⟨rfl, ?_, _, rfl⟩
          rw [List.take_add_one, hi, List.all_append, hall]
          simp [c2]
      · rintro σ H' ⟨rfl, hall, y, rfl⟩
        rw [List.take_length] at hall
        rw [hall] at q
        exact q
    · simp only [nolist, List.mem_cons, List.not_mem_nil, or_false] at m
      rcases m with rfl | rfl | rfl | rfl | rfl | rfl
      all_goals exact ⟨_, _, _, _, false, rfl, .ty _, ty, kit_ty (by decide +kernel), _, rfl, ifT rfl q⟩
theorem ok_refuse_no_bytes (T : Txt K mg) : FnOk P w K mg base (L2.CX P w) 4 T.a_refuse_no_bytes T.d_refuse_no_bytes ["row"] (spRefuse K T.c_NoBytes) := by
  refine T.F_refuse_no_bytes.okX sc_refuse_no_bytes (fun vs H Q E h => ?_) (fun cdv A outer s H vs Q E hr h => ?_)
  · obtain ⟨v, rfl, _⟩ := h
    rfl
  · obtain ⟨v, rfl, h⟩ := h
    refine ⟨_, (pss_one (ps_if (pt_not (pt_val (pe_call (ok_is_bytes T) (hr.mono (by decide)) (by rfl) T.g_is_bytes T.F_is_bytes.kp T.b_is_bytes .nil pass0 (pa_cons (pv 0) pa_nil)))) (pss_one (ps_raise rfl (takes_of rfl rfl rfl rfl) (pmk_own PySem.F.excBase_ValueError T.x_NoBytes T.g_NoBytes T.k_NoBytes (raises_own T.bb_NoBytes T.t_NoBytes) rfl))) pss_nil)), ?_⟩
    rcases h with ⟨a, xs, rfl, ha, hx, q⟩ | ⟨bad, q⟩
    · refine ⟨_, rfl, _, rfl, .inl ⟨_, _, rfl, ha, hx.things, ?_⟩⟩
      rw [show xs.all (inB 0 255) = true from hx]
      exact ⟨_, rfl, ifF rfl q⟩
    · cases bad with
      | lst e t n =>
        refine ⟨_, rfl, _, rfl, .inl ⟨_, _, rfl, e, t, ?_⟩⟩
        rw [n]
        exact ⟨_, rfl, ifT rfl q⟩
      | odd ty m => exact ⟨_, rfl, _, rfl, .inr ⟨_, ty, m, _, rfl, ifT rfl q⟩⟩
theorem ok_l_odd_row (T : Txt K mg) : FnOk P w K mg base CX0 2 T.a_l_odd_row T.d_l_odd_row ["_law_state", "_law_row"] (spOdd K) := by
  refine T.F_l_odd_row.ok sc_l_odd_row (fun vs H Q E h => ?_) (fun cdv A outer s H vs Q E hr h => ?_)
  · obtain ⟨p, r, xs, zs, rfl, _⟩ := h
    rfl
  · obtain ⟨p, r, xs, zs, rfl, hp, hx, hr0, row, hl, nrp, q⟩ := h
    refine ⟨_, (pss_cons (ps_if (pt_cmpR op_eq (pe_call (ok_l_digit T) (hr.mono (by decide)) (by rfl) T.g_l_digit T.F_l_digit.kp T.b_l_digit .nil pass0 (pa_cons (pv 0) (pa_cons pe_int pa_nil))) pe_int (nomark _)) (pss_one (ps_ret (pe_ix ix_list (pe_lst (pa_cons pe_non (pa_cons (pe_callTy call_tuple_of (by rfl) T.m_tuple (by decide +kernel) (pa_cons (pv 1) pa_nil)) (pa_cons pe_str (pa_cons pe_int (pa_cons pe_dnewK (pa_cons pe_str (pa_cons pe_int pa_nil)))))))) (pe_call (ok_l_digit T) (hr.mono (by decide)) (by rfl) T.g_l_digit T.F_l_digit.kp T.b_l_digit .nil pass0 (pa_cons (pv 0) (pa_cons pe_int pa_nil))) (fun _ _ => rfl)))) pss_nil)
      (pss_cons (ps_set (i := 2) sc_l_odd_row.nd rfl (Or.inl rfl) (pe_ix ix_list (pe_lst (pa_cons pe_int (pa_cons (pe_un un_neg pe_int) (pa_cons (pe_cmpR op_eq pe_int pe_int (nomark _)) (pa_cons pe_non (pa_cons pe_str (pa_cons (pe_lst (pa_cons pe_int pa_nil)) (pa_cons (pe_tup (pa_cons pe_int pa_nil)) (pa_cons (pe_op op_pow pe_int pe_int) (pa_cons (pe_un un_neg pe_int) (pa_cons (pe_cmpR op_eq pe_int pe_int (nomark _)) pa_nil))))))))))) (pe_call (ok_l_digit T) (hr.mono (by decide)) (by rfl) T.g_l_digit T.F_l_digit.kp T.b_l_digit .nil pass0 (pa_cons (pv 0) (pa_cons pe_int pa_nil))) (fun _ _ => rfl)))
      (pss_cons (ps_set (i := 3) sc_l_odd_row.nd rfl (Or.inl rfl) (pe_call (ok_l_digit T) (hr.mono (by decide)) (by rfl) T.g_l_digit T.F_l_digit.kp T.b_l_digit .nil pass0 (pa_cons (pv 0) (pa_cons (pe_op op_add (pe_callB call_len_seq (by rfl) T.m_len (by decide +kernel) (pa_cons (pv 1) pa_nil)) pe_int) pa_nil))))
      (pss_one (ps_ret (pe_op op_cat (pe_op op_cat (pe_slice sl_list (pv 1) po_none (po_some (pv 3))) (pe_lst (pa_cons (pv 2) pa_nil))) (pe_slice sl_list (pv 1) (po_some (pv 3)) po_none))))))), ?_⟩
    repeat' walk_at "g"
    walk_at "dg"
    rename_i H1 d1 xs1 f1 h1 st1 d10 d11
    repeat' walk_at "g"
    refine ifC (fun c => ?_) (fun c => ?_)
    · clear c
      repeat' walk_at "g"
      refine ⟨_, _, rfl, .inl ⟨SqL.of (by walk_at "hp"), fun tu ntu => ?_⟩⟩
      repeat' walk_at "g"
      intro dd ndd
      repeat' walk_at "g"
      walk_at "dg"
      rename_i H2 d2 xs2 f2 h2 st2 d20 d27
      refine' ixP (fun v => Bad K H2 v) (SqL.of ?h) d20 ?h1 ?al (fun bv hbv => ?_)
      case h => walk_at "hp"
      case h1 => exact d27
      case al =>
        intro v hv
        simp only [List.mem_cons, List.not_mem_nil, or_false] at hv
        rcases hv with rfl | rfl | rfl | rfl | rfl | rfl | rfl
        · exact .odd (.base .non) (by simp [nolist])
        · exact .odd (.base (.tup (by walk_at "hp"))) (by simp [nolist])
        · exact .odd (.base (.str _)) (by simp [nolist])
        · exact .odd (.base (.int _)) (by simp [nolist])
        · exact .odd (.base (.dK (by walk_at "hp"))) (by simp [nolist])
        · exact .odd (.base (.str _)) (by simp [nolist])
        · exact .odd (.base (.int _)) (by simp [nolist])
      exact q _ _ _ (by walk_at "fr") h2 st2 hbv
    · clear c
      repeat' walk_at "g"
      walk_at "dg"
      rename_i H2 d2 xs2 f2 h2 st2 d20 d27
      refine' ixP (fun v => Thing K H2 v ∧ inB 0 255 v = false ∧ v ≠ .ref p) (SqL.of ?h) d20 ?h1 ?al (fun v hv => ?_)
      case h => walk_at "hp"
      case h1 => exact d27
      case al =>
        intro v hv
        simp only [List.mem_cons, List.not_mem_nil, or_false] at hv
        rcases hv with rfl | rfl | rfl | rfl | rfl | rfl | rfl | rfl | rfl | rfl
        · exact ⟨.int _, rfl, fun z => nomatch z⟩
        · exact ⟨.int _, rfl, fun z => nomatch z⟩
        · exact ⟨.odd (.base (.bl _)) (by simp [others]) rfl, rfl, fun z => nomatch z⟩
        · exact ⟨.odd (.base .non) (by simp [others]) rfl, rfl, fun z => nomatch z⟩
        · exact ⟨.odd (.base (.str _)) (by simp [others]) rfl, rfl, fun z => nomatch z⟩
        · exact ⟨.odd (.base (.lst (by walk_at "hp"))) (by simp [others]) rfl, rfl, fun z => (show _ ≠ p by walk_at "ne") (V.ref.inj z)⟩
        · exact ⟨.odd (.base (.tup (by walk_at "hp"))) (by simp [others]) rfl, rfl, fun z => (show _ ≠ p by walk_at "ne") (V.ref.inj z)⟩
        · exact ⟨.int _, rfl, fun z => nomatch z⟩
        · exact ⟨.int _, rfl, fun z => nomatch z⟩
        · exact ⟨.odd (.base (.bl _)) (by simp [others]) rfl, rfl, fun z => nomatch z⟩
      obtain ⟨th, hv0, hvp⟩ := hv
      have hr2 : H2 r = some (.lst zs) := by walk_at "hp"
      have f02 : Frm p H H2 := by walk_at "fr"
      clear f2 f1
      repeat' walk_at "g"
      walk_at "dg"
      rename_i H3 at3 xs3 f3 h3 st3 at0 at1
      have th3 : Thing K H3 v := th.keep fun b o e h => by
        have nb : b ≠ p := fun z => hvp (by rw [e, z])
        exact f3 b o nb h
      have hr3 : H3 r = some (.lst zs) := f3 _ _ nrp hr2
      have f03 : Frm p H H3 := f02.trans f3
      have cl1 : (cutV zs none (some at3)).length = at3.toNat := by rw [cutV_hi at0 (by omega), List.length_take]; omega
      have cl2 : (cutV zs (some at3) none).length = zs.length - at3.toNat := by rw [cutV_lo at0 (by omega), List.length_drop]
      clear f3 f02 hr2 th hr0
      repeat' walk_at "g"
      refine ⟨_, _, _, _, rfl, rfl, by walk_at "hp", by walk_at "hp", szn (by simp only [List.length]; omega), fun c1 nc1 => ?_⟩
      repeat' walk_at "g"
      refine ⟨_, _, _, _, rfl, rfl, by walk_at "hp", by walk_at "hp", szn (by simp only [List.length_append, List.length]; omega), fun c2 nc2 => ?_⟩
      refine q _ _ _ (by walk_at "fr") (by walk_at "hp") st3 (.lst upd_same (fun x hx => ?_) (spoilt hv0))
      rcases List.mem_append.mp hx with hx | hx
      · rcases List.mem_append.mp hx with hx | hx
        · obtain ⟨n, rfl, _⟩ := row.mem (cutV_mem hx)
          exact .int n
        · rw [List.mem_singleton.mp hx]
          exact th3.keep fun b o e h => by walk_at "hp"
      · obtain ⟨n, rfl, _⟩ := row.mem (cutV_mem hx)
        exact .int n
theorem ok_l_bytes (T : Txt K mg) : FnOk P w K mg base CX0 2 T.a_l_bytes T.d_l_bytes ["_law_state", "_law_many"] spLBytes := by
  refine T.F_l_bytes.ok sc_l_bytes (fun vs H Q E h => ?_) (fun cdv A outer s H vs Q E hr h => ?_)
  · obtain ⟨p, xs, m, rfl, _⟩ := h
    rfl
  · obtain ⟨p, xs, m, rfl, hp, hx, m0, m1, q⟩ := h
    refine ⟨_, (pss_cons (ps_set (i := 2) sc_l_bytes.nd rfl (Or.inl rfl) (pe_call (ok_l_digit T) (hr.mono (by decide)) (by rfl) T.g_l_digit T.F_l_digit.kp T.b_l_digit .nil pass0 (pa_cons (pv 0) (pa_cons pe_int pa_nil))))
      (pss_cons (ps_set (i := 3) sc_l_bytes.nd rfl (Or.inl rfl) (pe_lst pa_nil))
      (pss_cons (ps_for PassesOwn.never rfl (pi_range1 (by rfl) T.m_range (pa_cons (pv 1) pa_nil)) (pg_name (i := 4) sc_l_bytes.nd rfl (Or.inl rfl))
        (pss_cons (ps_set (i := 5) sc_l_bytes.nd rfl (Or.inl rfl) (pe_call (ok_l_digit T) (hr.mono (by decide)) (by rfl) T.g_l_digit T.F_l_digit.kp T.b_l_digit .nil pass0 (pa_cons (pv 0) (pa_cons pe_int pa_nil))))
      (pss_one (ps_expr (pe_bm PySem.F.plainAttrs_list PySem.F.slot_list_append PySem.F.type_list_append mt_append (pv 3) (pa_cons (pe_ix ix_list (pe_lst (pa_cons (pv 5) (pa_cons (pe_op op_mod (pv 5) pe_int) (pa_cons (pe_ix ix_list (pe_lst (pa_cons pe_int (pa_cons pe_int (pa_cons pe_int (pa_cons pe_int (pa_cons pe_int (pa_cons (pv 5) pa_nil))))))) (pe_op op_mod (pv 5) pe_int) (fun _ _ => rfl)) pa_nil)))) (pv 2) (fun _ _ => rfl)) pa_nil))))))
      (pss_one (ps_ret (pv 3)))))), ?_⟩
    repeat' walk_at "g"
    walk_at "dg"
    rename_i H1 d1 xs1 f1 h1 st1 d10 d11
    refine ⟨sz rfl, fun fo nfo => ?_⟩
    have nfp : fo ≠ p := by walk_at "ne"
    have nfH : H fo = none := by
      cases e : H fo with
      | none => rfl
      | some o => exact absurd (f1 _ _ nfp e) (by rw [nfo]; exact fun z => nomatch z)
    repeat' walk_at "g"
    refine ⟨by omega, by omega, forR (lo := 0) (n := m.toNat) (fun H0 i σ H' => ∃ y z xs' zs, σ = [some (.ref p), some (.int m), some (.int d1), some (.ref fo), y, z] ∧ Frm p H H' ∧ H' p = some (.lst xs') ∧ IsSt xs' ∧ H' fo = some (.lst zs) ∧ zs.length = i ∧ Row zs) ?_ ?_ ?_⟩
    · exact ⟨_, _, _, _, rfl, by walk_at "fr", by walk_at "hp", by assumption, upd_same, rfl, Row.nil⟩
    · rintro i σ H2 hi ⟨y, z, xs2, zs, rfl, f2, h2, st2, hf, hl, row⟩
      clear f1 h1 nfo
      repeat' walk_at "g"
      walk_at "dg"
      rename_i H3 b3 xs3 f3 h3 st3 b30 b31
      have hf3 : H3 fo = some (.lst zs) := f3 _ _ nfp hf
      have f03 := f2.trans f3
      clear f3 f2 hf
      repeat' walk_at "g"
      refine' ixP (fun v => ∃ n, v = .int n ∧ 0 ≤ n ∧ n ≤ 255) (SqL.of ?h) (d := b3 % 6) ?h0 ?h1 ?al (fun v hv => ?_)
      case h => walk_at "hp"
      case h0 => omega
      case h1 => show b3 % 6 < 6; omega
      case al =>
        intro v hv
        simp only [List.mem_cons, List.not_mem_nil, or_false] at hv
        rcases hv with rfl | rfl | rfl | rfl | rfl | rfl
        all_goals exact ⟨_, rfl, by omega, by omega⟩
      obtain ⟨b, rfl, b0, b255⟩ := hv
      repeat' walk_at "g"
      refine' ixP (fun v => ∃ n, v = .int n ∧ 0 ≤ n ∧ n ≤ 255) (SqL.of ?h) (d := d1) ?h0 ?h1 ?al (fun v hv => ?_)
      case h => walk_at "hp"
      case h0 => exact d10
      case h1 => exact d11
      case al =>
        intro v hv
        simp only [List.mem_cons, List.not_mem_nil, or_false] at hv
        rcases hv with rfl | rfl | rfl
        all_goals exact ⟨_, rfl, by omega, by omega⟩
      obtain ⟨c, rfl, c0, c255⟩ := hv
      refine ⟨_, _, _, rfl, rfl, by walk_at "hp", sznl (by omega), ?_⟩
      refine ⟨_, _, _, zs ++ [.int c], rfl, by walk_at "fr", by walk_at "hp", st3, upd_same, by rw [List.length_append, hl]; rfl, row.app (Row.one c0 c255)⟩
    · rintro σ H2 ⟨y, z, xs2, zs, rfl, f2, h2, st2, hf, hl, row⟩
      exact ⟨_, rfl, q _ _ _ _ f2 h2 st2 hf nfH row hl⟩
end

/-! ### stuffing -/
def isZ : V → Bool
  | .int n => decide (n = 0)
  | _ => false
theorem isZ_int {n : Int} : isZ (.int n) = decide (n = 0) := rfl
def stf : Int → List V → List V
  | _, [] => []
  | n, v :: r => if isZ v = true then (if n + 1 = 2 then v :: .int 2 :: stf 0 r else v :: stf (n + 1) r) else v :: stf 0 r
/-- what unstuffing finds behind n noughts -/
def unst : Int → List V → Option (List V)
  | n, [] => if n = 2 then none else some []
  | n, v :: r => if n < 2 then (unst (if isZ v = true then n + 1 else 0) r).map (v :: ·) else if v = .int 2 then unst 0 r else none
theorem stf_row : ∀ {xs : List V} (n : Int), Row xs → Row (stf n xs)
  | [], _, _ => rfl
  | v :: r, n, h => by
    obtain ⟨k, rfl, k0, k1⟩ := h.mem (List.mem_cons_self)
    have hr : Row r := h.sub fun _ m => List.mem_cons_of_mem _ m
    unfold stf
    split
    · split
      · exact (Row.one k0 k1).app ((Row.one (n := 2) (by decide) (by decide)).app (stf_row 0 hr))
      · exact (Row.one k0 k1).app (stf_row _ hr)
    · exact (Row.one k0 k1).app (stf_row 0 hr)
theorem stf_len : ∀ {xs : List V} (n : Int), (stf n xs).length ≤ 2 * xs.length
  | [], _ => Nat.le_refl _
  | v :: r, n => by
    unfold stf
    split
    · split
      · have := stf_len (xs := r) 0
        simp only [List.length_cons]; omega
      · have := stf_len (xs := r) (n + 1)
        simp only [List.length_cons]; omega
    · have := stf_len (xs := r) 0
      simp only [List.length_cons]; omega
theorem unst_stf : ∀ {xs : List V} {n : Int}, 0 ≤ n → n ≤ 1 → unst n (stf n xs) = some xs
  | [], n, h0, h1 => by
    show (if n = 2 then none else some []) = some []
    rw [if_neg (by omega)]
  | v :: r, n, h0, h1 => by
    unfold stf
    split
    · rename_i hz
      split
      · rename_i h2
        have e := unst_stf (xs := r) (n := 0) (by decide) (by decide)
        show (if n < 2 then (unst (if isZ v = true then n + 1 else 0) (.int 2 :: stf 0 r)).map (v :: ·) else _) = _
        rw [if_pos (by omega), if_pos hz, h2]
        show ((if (2 : Int) < 2 then _ else if V.int 2 = V.int 2 then unst 0 (stf 0 r) else none).map (v :: ·)) = _
        rw [if_neg (by decide), if_pos rfl, e]; rfl
      · have e := unst_stf (xs := r) (n := n + 1) (by omega) (by omega)
        show (if n < 2 then (unst (if isZ v = true then n + 1 else 0) (stf (n + 1) r)).map (v :: ·) else _) = _
        rw [if_pos (by omega), if_pos hz, e]; rfl
    · rename_i hz
      have e := unst_stf (xs := r) (n := 0) (by decide) (by decide)
      show (if n < 2 then (unst (if isZ v = true then n + 1 else 0) (stf 0 r)).map (v :: ·) else _) = _
      rw [if_pos (by omega), if_neg hz, e]; rfl
/-- no START stands in what can be unstuffed -/
theorem unst_start : ∀ (pre suf : List V) (n : Int), 0 ≤ n → n ≤ 2 → unst n (pre ++ .int 0 :: .int 0 :: .int 1 :: suf) = none
  | [], suf, n, h0, h2 => by
    by_cases c2 : n = 2
    · subst c2; rfl
    · by_cases c1 : n = 1
      · subst c1; rfl
      · have : n = 0 := by omega
        subst this; rfl
  | v :: pre, suf, n, h0, h2 => by
    show (if n < 2 then (unst (if isZ v = true then n + 1 else 0) (pre ++ .int 0 :: .int 0 :: .int 1 :: suf)).map (v :: ·) else if v = .int 2 then unst 0 (pre ++ .int 0 :: .int 0 :: .int 1 :: suf) else none) = none
    rw [unst_start pre suf 0 (by decide) (by decide)]
    split
    · rw [unst_start pre suf _ (by split <;> omega) (by split <;> omega)]; rfl
    · split <;> rfl
theorem unst_zz {r : List V} : unst 0 (.int 0 :: .int 0 :: .int 2 :: r) = (unst 0 r).map fun ys => .int 0 :: .int 0 :: ys := by
  show ((unst 0 r).map (V.int 0 :: ·)).map (V.int 0 :: ·) = _
  rw [Option.map_map]; rfl
theorem unst_zn {r : List V} (h : ∀ r', r ≠ .int 2 :: r') : unst 0 (.int 0 :: .int 0 :: r) = none := by
  show ((unst 2 r).map (V.int 0 :: ·)).map (V.int 0 :: ·) = none
  cases r with
  | nil => rfl
  | cons v r =>
    have hv : v ≠ .int 2 := fun e => h r (by rw [e])
    show ((if (2 : Int) < 2 then _ else if v = .int 2 then unst 0 r else none).map (V.int 0 :: ·)).map (V.int 0 :: ·) = none
    rw [if_neg (by decide), if_neg hv]; rfl
theorem unst_one {v : V} {r : List V} (h : isZ v = true → ∀ w r', r = w :: r' → isZ w = false) : unst 0 (v :: r) = (unst 0 r).map (v :: ·) := by
  by_cases c : isZ v = true
  · show (unst (if isZ v = true then 0 + 1 else 0) r).map (v :: ·) = _
    rw [if_pos c]
    cases r with
    | nil => rfl
    | cons w r =>
      have hw := h c w r rfl
      congr 1
      show (unst (if isZ w = true then 1 + 1 else 0) r).map (w :: ·) = (unst (if isZ w = true then 0 + 1 else 0) r).map (w :: ·)
      rw [if_neg (by rw [hw]; exact fun z => nomatch z), if_neg (by rw [hw]; exact fun z => nomatch z)]
  · show (unst (if isZ v = true then 0 + 1 else 0) r).map (v :: ·) = _
    rw [if_neg c]
theorem unst_row : ∀ {xs ys : List V} {n : Int}, Row xs → unst n xs = some ys → Row ys
  | [], ys, n, _, h => by
    have h2 : (if n = 2 then none else some ([] : List V)) = some ys := h
    split at h2
    · cases h2
    · cases h2; exact Row.nil
  | v :: r, ys, n, hx, h => by
    have h2 : (if n < 2 then (unst (if isZ v = true then n + 1 else 0) r).map (v :: ·) else if v = .int 2 then unst 0 r else none) = some ys := h
    have hr : Row r := hx.sub fun _ m => List.mem_cons_of_mem _ m
    obtain ⟨k, rfl, k0, k1⟩ := hx.mem (List.mem_cons_self)
    split at h2
    · obtain ⟨zs, e, rfl⟩ := Option.map_eq_some_iff.mp h2
      exact (Row.one k0 k1).app (unst_row hr e)
    · split at h2
      · exact unst_row hr h2
      · cases h2
theorem cutV_nat {xs : List V} {m k : Nat} (h : m ≤ xs.length) : cutV xs (some (m : Int)) (some ((m : Int) + (k : Int))) = (xs.drop m).take k := by
  have e : HT.sIx xs.length 0 (some (m : Int)) = m := by
    rw [HT.sIx_nat]; omega
  have e2 : HT.sIx xs.length xs.length (some ((m : Int) + (k : Int))) = min (m + k) xs.length := by
    have q : (m : Int) + (k : Int) = ((m + k : Nat) : Int) := by omega
    rw [q, HT.sIx_nat]
  unfold cutV
  rw [e, e2]
  by_cases c : m + k ≤ xs.length
  · rw [Nat.min_eq_left c, Nat.add_sub_cancel_left]
  · rw [Nat.min_eq_right (by omega), List.take_of_length_le (by rw [List.length_drop]; exact Nat.le_refl _), List.take_of_length_le (by rw [List.length_drop]; omega)]
theorem eqRow {K : PySem.W.Frag} {H : Hp} {Q : VK} {p q : Addr} {xs ys : List V} (r1 : Row xs) (r2 : Row ys) (h1 : SqL K H p xs) (h2 : SqL K H q ys) (kt : xs = ys → Q (.bl true) H) (kf : xs ≠ ys → Q (.bl false) H) : rEqD K (.ref p) (.ref q) H Q := by
  obtain ⟨ns, rfl⟩ := r1.ints
  obtain ⟨ms, rfl⟩ := r2.ints
  refine eqInts h1 h2 ?_
  by_cases c : ns = ms
  · rw [decide_eq_true c]; exact kt (by rw [c])
  · rw [decide_eq_false c]
    refine kf fun z => c ?_
    exact (List.map_inj_right (fun _ _ e => V.int.inj e)).mp z
theorem neRow {K : PySem.W.Frag} {H : Hp} {Q : VK} {p q : Addr} {xs ys : List V} (r1 : Row xs) (r2 : Row ys) (h1 : SqL K H p xs) (h2 : SqL K H q ys) (kt : xs = ys → Q (.bl false) H) (kf : xs ≠ ys → Q (.bl true) H) : rNeD K (.ref p) (.ref q) H Q := by
  obtain ⟨ns, rfl⟩ := r1.ints
  obtain ⟨ms, rfl⟩ := r2.ints
  refine neqInts h1 h2 ?_
  by_cases c : ns = ms
  · rw [decide_eq_true c]; exact kt (by rw [c])
  · rw [decide_eq_false c]
    refine kf fun z => c ?_
    exact (List.map_inj_right (fun _ _ e => V.int.inj e)).mp z

theorem drop_at {xs : List V} {i : Nat} {x : V} (h : xs[i]? = some x) : xs.drop i = x :: xs.drop (i + 1) := by
  obtain ⟨hi, e⟩ := List.getElem?_eq_some_iff.mp h
  rw [List.drop_eq_getElem_cons hi, e]
theorem decV {a b : Int} : decide (V.int a = V.int b) = decide (a = b) := decide_eq_decide.mpr ⟨fun h => V.int.inj h, fun h => by rw [h]⟩
def spStuffed (K : PySem.W.Frag) (C : Addr) : Sp := fun vs H Q E => ∃ v, vs = [v] ∧
  ((∃ a xs, v = .ref a ∧ H a = some (.lst xs) ∧ Row xs ∧ xs.length ≤ 1000 ∧ ∀ H' q, Same H H' → H q = none → H' q = some (.lst (stf 0 xs)) → Q (.ref q) H') ∨ (Bad K H v ∧ E (.ref C) none H))
def spUnstuffed (K : PySem.W.Frag) (C D : Addr) : Sp := fun vs H Q E => ∃ v, vs = [v] ∧
  ((∃ a xs, v = .ref a ∧ H a = some (.lst xs) ∧ Row xs ∧ xs.length ≤ 1000 ∧ (∀ H' q ys, unst 0 xs = some ys → Same H H' → H q = none → H' q = some (.lst ys) → Q (.ref q) H') ∧ (∀ H', unst 0 xs = none → Same H H' → E (.ref D) none H')) ∨ (Bad K H v ∧ E (.ref C) none H))
def spLStuffed : Sp := fun vs H Q _ => ∃ a xs, vs = [.ref a] ∧ H a = some (.lst xs) ∧ Row xs ∧ xs.length ≤ 1000 ∧ ∀ H' q, Same H H' → H q = none → H' q = some (.lst (stf 0 xs)) → Q (.ref q) H'
def spLUnstuffed : Sp := fun vs H Q _ => ∃ a xs, vs = [.ref a] ∧ H a = some (.lst xs) ∧ Row xs ∧ xs.length ≤ 1000 ∧
  (∀ H' q ys, unst 0 xs = some ys → Same H H' → H q = none → H' q = some (.lst ys) → Q (.ref q) H') ∧ (∀ H', unst 0 xs = none → Same H H' → Q .non H')
section
variable {P : Program} {w : World} {K : PySem.W.Frag} {mg : Str → Option Value} {base : Heap}
theorem ok_stuffed (T : Txt K mg) : FnOk P w K mg base (L2.CX P w) 5 T.a_stuffed T.d_stuffed ["row"] (spStuffed K T.c_NoBytes) := by
  refine T.F_stuffed.okX sc_stuffed (fun vs H Q E h => ?_) (fun cdv A outer s H vs Q E hr h => ?_)
  · obtain ⟨v, rfl, _⟩ := h
    rfl
  · obtain ⟨v, rfl, h⟩ := h
    refine ⟨_, (pss_cons (ps_expr (pe_call (ok_refuse_no_bytes T) (hr.mono (by decide)) (by rfl) T.g_refuse_no_bytes T.F_refuse_no_bytes.kp T.b_refuse_no_bytes .nil (passes_call (takes_of rfl rfl rfl rfl) (fun _ _ _ _ h => h)) (pa_cons (pv 0) pa_nil)))
      (pss_cons (ps_set (i := 1) sc_stuffed.nd rfl (Or.inl rfl) (pe_lst pa_nil))
      (pss_cons (ps_set (i := 2) sc_stuffed.nd rfl (Or.inl rfl) pe_int)
      (pss_cons (ps_for (passes_of rfl) rfl (pi_list (pv 0)) (pg_name (i := 3) sc_stuffed.nd rfl (Or.inl rfl))
        (pss_cons (ps_expr (pe_bm PySem.F.plainAttrs_list PySem.F.slot_list_append PySem.F.type_list_append mt_append (pv 1) (pa_cons (pv 3) pa_nil)))
      (pss_cons (ps_set (i := 2) sc_stuffed.nd rfl (Or.inl rfl) (pe_ifExp (pt_cmpR op_eq (pv 3) pe_int (nomark _)) (pe_op op_add (pv 2) pe_int) pe_int))
      (pss_one (ps_if (pt_cmpR op_eq (pv 2) pe_int (nomark _)) (pss_cons (ps_expr (pe_bm PySem.F.plainAttrs_list PySem.F.slot_list_append PySem.F.type_list_append mt_append (pv 1) (pa_cons (pe_glob (v := .int 2) (by rfl) T.g_STUFFING ⟨_, rfl⟩) pa_nil)))
      (pss_one (ps_set (i := 2) sc_stuffed.nd rfl (Or.inl rfl) pe_int))) pss_nil)))))
      (pss_one (ps_ret (pv 1))))))), ?_⟩
    rcases h with ⟨a, xs, rfl, ha, hx, hlen, q⟩ | ⟨bad, q⟩
    · refine ⟨_, rfl, _, rfl, .inl ⟨_, _, rfl, ha, hx, ?_⟩⟩
      repeat' walk_at "g"
      rename_i fo nfo
      refine ⟨⟨_, SqL.of (by walk_at "hp")⟩, ?_⟩
      have sl := stf_len (xs := xs) 0
      refine forL (K := K) (a := a) (xs := xs) (fun _ i σ H' => Same H H' ∧ ∃ acc n y, σ = [some (.ref a), some (.ref fo), some (.int n), y] ∧ H' fo = some (.lst acc) ∧ acc ++ stf n (xs.drop i) = stf 0 xs ∧ (n = 0 ∨ n = 1)) ?_ ?_ ?_ ?_
      · exact ⟨by walk_at "fr", _, _, _, rfl, upd_same, rfl, .inl rfl⟩
      · rintro i σ H1 _ ⟨s1, _⟩
        exact SqL.of (s1 _ _ ha)
      · rintro i x σ H1 hi ⟨s1, acc, n, y, rfl, h1, hacc, hn⟩
        obtain ⟨k, rfl, k0, k1⟩ := hx.at hi
        have hal : acc.length ≤ 2 * xs.length := by
          have := congrArg List.length hacc
          rw [List.length_append] at this
          omega
        rw [drop_at hi] at hacc
        repeat' walk_at "g"
        refine ⟨_, _, _, rfl, rfl, h1, szbl (by omega), ?_⟩
        repeat' walk_at "g"
        rw [decV]
        by_cases ck : k = 0
        · subst ck
          rw [decide_eq_true rfl]
          rcases hn with rfl | rfl
          · repeat' walk_at "g"
            refine ⟨by walk_at "fr", _, _, _, rfl, upd_same, ?_, .inr rfl⟩
            rw [← hacc, List.append_assoc]; rfl
          · repeat' walk_at "g"
            refine ⟨_, _, _, rfl, rfl, upd_same, szbl (by rw [List.length_append]; simp only [List.length]; omega), ?_⟩
            repeat' walk_at "g"
            refine ⟨by rw [upd_upd]; walk_at "fr", _, _, _, rfl, upd_same, ?_, .inl rfl⟩
            rw [← hacc, List.append_assoc, List.append_assoc]; rfl
        · rw [decide_eq_false ck]
          repeat' walk_at "g"
          refine ⟨by walk_at "fr", _, _, _, rfl, upd_same, ?_, .inl rfl⟩
          rw [← hacc, List.append_assoc]
          show acc ++ ([V.int k] ++ stf 0 (xs.drop (i + 1))) = acc ++ (if decide (k = 0) = true then _ else V.int k :: stf 0 (xs.drop (i + 1)))
          rw [decide_eq_false ck, if_neg Bool.false_ne_true]; rfl
      · rintro σ H1 ⟨s1, acc, n, y, rfl, h1, hacc, hn⟩
        rw [List.drop_length, show stf n [] = [] from rfl, List.append_nil] at hacc
        subst hacc
        exact ⟨_, rfl, q _ _ s1 nfo h1⟩
    · exact ⟨_, rfl, _, rfl, .inr ⟨bad, q⟩⟩
theorem ok_l_stuffed (T : Txt K mg) : FnOk P w K mg base CX0 1 T.a_l_stuffed T.d_l_stuffed ["_law_row"] spLStuffed := by
  refine T.F_l_stuffed.ok sc_l_stuffed (fun vs H Q E h => ?_) (fun cdv A outer s H vs Q E hr h => ?_)
  · obtain ⟨a, xs, rfl, _⟩ := h
    rfl
  · obtain ⟨a, xs, rfl, ha, hx, hlen, q⟩ := h
    refine ⟨_, (pss_cons (ps_set (i := 1) sc_l_stuffed.nd rfl (Or.inl rfl) (pe_lst pa_nil))
      (pss_cons (ps_set (i := 2) sc_l_stuffed.nd rfl (Or.inl rfl) pe_int)
      (pss_cons (ps_for PassesOwn.never rfl (pi_list (pv 0)) (pg_name (i := 3) sc_l_stuffed.nd rfl (Or.inl rfl))
        (pss_cons (ps_expr (pe_bm PySem.F.plainAttrs_list PySem.F.slot_list_append PySem.F.type_list_append mt_append (pv 1) (pa_cons (pv 3) pa_nil)))
      (pss_cons (ps_set (i := 2) sc_l_stuffed.nd rfl (Or.inl rfl) (pe_op op_mul (pe_op op_add (pv 2) pe_int) (pe_callTy call_int1 (by rfl) T.m_int (by decide +kernel) (pa_cons (pe_cmpR op_eq (pv 3) pe_int (nomark _)) pa_nil))))
      (pss_one (ps_if (pt_cmpR op_eq (pv 2) pe_int (nomark _)) (pss_cons (ps_expr (pe_bm PySem.F.plainAttrs_list PySem.F.slot_list_append PySem.F.type_list_append mt_append (pv 1) (pa_cons pe_int pa_nil)))
      (pss_one (ps_set (i := 2) sc_l_stuffed.nd rfl (Or.inl rfl) pe_int))) pss_nil)))))
      (pss_one (ps_ret (pv 1)))))), ?_⟩
    repeat' walk_at "g"
    rename_i fo nfo
    refine ⟨⟨_, SqL.of (by walk_at "hp")⟩, ?_⟩
    have sl := stf_len (xs := xs) 0
    refine forL (K := K) (a := a) (xs := xs) (fun _ i σ H' => Same H H' ∧ ∃ acc n y, σ = [some (.ref a), some (.ref fo), some (.int n), y] ∧ H' fo = some (.lst acc) ∧ acc ++ stf n (xs.drop i) = stf 0 xs ∧ (n = 0 ∨ n = 1)) ?_ ?_ ?_ ?_
    · exact ⟨by walk_at "fr", _, _, _, rfl, upd_same, rfl, .inl rfl⟩
    · rintro i σ H1 _ ⟨s1, _⟩
      exact SqL.of (s1 _ _ ha)
    · rintro i x σ H1 hi ⟨s1, acc, n, y, rfl, h1, hacc, hn⟩
      obtain ⟨k, rfl, k0, k1⟩ := hx.at hi
      have hal : acc.length ≤ 2 * xs.length := by
        have := congrArg List.length hacc
        rw [List.length_append] at this
        omega
      rw [drop_at hi] at hacc
      repeat' walk_at "g"
      refine ⟨_, _, _, rfl, rfl, h1, szbl (by omega), ?_⟩
      repeat' walk_at "g"
      refine .inr ⟨_, rfl, ?_⟩
      rw [decV]
      by_cases ck : k = 0
      · subst ck
        rw [decide_eq_true rfl]
        rcases hn with rfl | rfl
        · repeat' walk_at "g"
          refine ⟨by walk_at "fr", _, _, _, rfl, upd_same, ?_, .inr rfl⟩
          rw [← hacc, List.append_assoc]; rfl
        · repeat' walk_at "g"
          refine ⟨_, _, _, rfl, rfl, upd_same, szbl (by rw [List.length_append]; simp only [List.length]; omega), ?_⟩
          repeat' walk_at "g"
          refine ⟨by rw [upd_upd]; walk_at "fr", _, _, _, rfl, upd_same, ?_, .inl rfl⟩
          rw [← hacc, List.append_assoc, List.append_assoc]; rfl
      · rw [decide_eq_false ck]
        have e0 : (n + 1) * (if false = true then 1 else 0) = 0 := by rw [if_neg Bool.false_ne_true, Int.mul_zero]
        rcases hn with rfl | rfl
        all_goals
          repeat' walk_at "g"
          refine ⟨by walk_at "fr", _, _, _, rfl, upd_same, ?_, .inl rfl⟩
          rw [← hacc, List.append_assoc]
          show acc ++ ([V.int k] ++ stf 0 (xs.drop (i + 1))) = acc ++ (if decide (k = 0) = true then _ else V.int k :: stf 0 (xs.drop (i + 1)))
          rw [decide_eq_false ck, if_neg Bool.false_ne_true]; rfl
    · rintro σ H1 ⟨s1, acc, n, y, rfl, h1, hacc, hn⟩
      rw [List.drop_length, show stf n [] = [] from rfl, List.append_nil] at hacc
      subst hacc
      exact ⟨_, rfl, q _ _ s1 nfo h1⟩
theorem ok_unstuffed (T : Txt K mg) : FnOk P w K mg base (L2.CX P w) 5 T.a_unstuffed T.d_unstuffed ["row"] (spUnstuffed K T.c_NoBytes T.c_NoStuffing) := by
  refine T.F_unstuffed.okX sc_unstuffed (fun vs H Q E h => ?_) (fun cdv A outer s H vs Q E hr h => ?_)
  · obtain ⟨v, rfl, _⟩ := h
    rfl
  · obtain ⟨v, rfl, h⟩ := h
    refine ⟨_, (pss_cons (ps_expr (pe_call (ok_refuse_no_bytes T) (hr.mono (by decide)) (by rfl) T.g_refuse_no_bytes T.F_refuse_no_bytes.kp T.b_refuse_no_bytes .nil (passes_call (takes_of rfl rfl rfl rfl) (fun _ _ _ _ h => h)) (pa_cons (pv 0) pa_nil)))
      (pss_cons (ps_set (i := 1) sc_unstuffed.nd rfl (Or.inl rfl) (pe_lst pa_nil))
      (pss_cons (ps_set (i := 2) sc_unstuffed.nd rfl (Or.inl rfl) pe_int)
      (pss_cons (ps_for (passes_of rfl) rfl (pi_list (pv 0)) (pg_name (i := 3) sc_unstuffed.nd rfl (Or.inl rfl))
        (pss_one (ps_if (pt_cmpR op_lt (pv 2) pe_int (nomark _)) (pss_cons (ps_expr (pe_bm PySem.F.plainAttrs_list PySem.F.slot_list_append PySem.F.type_list_append mt_append (pv 1) (pa_cons (pv 3) pa_nil)))
      (pss_one (ps_set (i := 2) sc_unstuffed.nd rfl (Or.inl rfl) (pe_ifExp (pt_cmpR op_eq (pv 3) pe_int (nomark _)) (pe_op op_add (pv 2) pe_int) pe_int)))) (pss_one (ps_if (pt_cmpR op_eq (pv 3) (pe_glob (v := .int 2) (by rfl) T.g_STUFFING ⟨_, rfl⟩) (nomark _)) (pss_one (ps_set (i := 2) sc_unstuffed.nd rfl (Or.inl rfl) pe_int)) (pss_one (ps_raise rfl (takes_of rfl rfl rfl rfl) (pmk_own PySem.F.excBase_ValueError T.x_NoStuffing T.g_NoStuffing T.k_NoStuffing (raises_own T.bb_NoStuffing T.t_NoStuffing) rfl))))))))
      (pss_cons (ps_if (pt_cmpR op_eq (pv 2) pe_int (nomark _)) (pss_one (ps_raise rfl (takes_of rfl rfl rfl rfl) (pmk_own PySem.F.excBase_ValueError T.x_NoStuffing T.g_NoStuffing T.k_NoStuffing (raises_own T.bb_NoStuffing T.t_NoStuffing) rfl))) pss_nil)
      (pss_one (ps_ret (pv 1)))))))), ?_⟩
    rcases h with ⟨a, xs, rfl, ha, hx, hlen, q, qe⟩ | ⟨bad, q⟩
    · refine ⟨_, rfl, _, rfl, .inl ⟨_, _, rfl, ha, hx, ?_⟩⟩
      repeat' walk_at "g"
      rename_i fo nfo
      refine ⟨⟨_, SqL.of (by walk_at "hp")⟩, ?_⟩
      refine forL (K := K) (a := a) (xs := xs) (fun _ i σ H' => Same H H' ∧ ∃ acc n y, σ = [some (.ref a), some (.ref fo), some (.int n), y] ∧ H' fo = some (.lst acc) ∧ acc.length ≤ i ∧ (unst n (xs.drop i)).map (acc ++ ·) = unst 0 xs ∧ 0 ≤ n ∧ n ≤ 2) ?_ ?_ ?_ ?_
      · exact ⟨by walk_at "fr", _, _, _, rfl, upd_same, Nat.le_refl _, by simp, by decide, by decide⟩
      · rintro i σ H1 _ ⟨s1, _⟩
        exact SqL.of (s1 _ _ ha)
      · rintro i x σ H1 hi ⟨s1, acc, n, y, rfl, h1, hal, hacc, n0, n2⟩
        obtain ⟨k, rfl, k0, k1⟩ := hx.at hi
        have hil : i < xs.length := (List.getElem?_eq_some_iff.mp hi).1
        rw [drop_at hi] at hacc
        repeat' walk_at "g"
        refine ifC (fun c => ?_) (fun c => ?_)
        · have c := of_decide_eq_true c
          have hacc2 : ((unst (if isZ (.int k) = true then n + 1 else 0) (xs.drop (i + 1))).map (V.int k :: ·)).map (acc ++ ·) = unst 0 xs := by
            rw [← hacc]
            show _ = Option.map (acc ++ ·) (if n < 2 then _ else _)
            rw [if_pos c]
          rw [Option.map_map] at hacc2
          repeat' walk_at "g"
          refine ⟨_, _, _, rfl, rfl, h1, szbl (by omega), ?_⟩
          repeat' walk_at "g"
          rw [decV]
          rw [isZ_int] at hacc2
          have fin : ∀ m : Int, Option.map ((fun x => acc ++ x) ∘ (fun x => V.int k :: x)) (unst m (xs.drop (i + 1))) = Option.map (acc ++ [V.int k] ++ ·) (unst m (xs.drop (i + 1))) := fun m => by
            congr 1
            funext l
            simp
          by_cases ck : k = 0
          · rw [decide_eq_true ck] at hacc2 ⊢
            rw [if_pos rfl, fin] at hacc2
            repeat' walk_at "g"
            exact ⟨by walk_at "fr", _, _, _, rfl, upd_same, by rw [List.length_append]; simp only [List.length]; omega, hacc2, by omega, by omega⟩
          · rw [decide_eq_false ck] at hacc2 ⊢
            rw [if_neg Bool.false_ne_true, fin] at hacc2
            repeat' walk_at "g"
            exact ⟨by walk_at "fr", _, _, _, rfl, upd_same, by rw [List.length_append]; simp only [List.length]; omega, hacc2, by decide, by decide⟩
        · have c := of_decide_eq_false c
          have hacc2 : Option.map (acc ++ ·) (if V.int k = V.int 2 then unst 0 (xs.drop (i + 1)) else none) = unst 0 xs := by
            rw [← hacc]
            show _ = Option.map (acc ++ ·) (if n < 2 then _ else _)
            rw [if_neg c]
          repeat' walk_at "g"
          refine ifC (fun c2 => ?_) (fun c2 => ?_)
          · have c2 := of_decide_eq_true c2
            rw [if_pos c2] at hacc2
            repeat' walk_at "g"
            exact ⟨s1, _, _, _, rfl, h1, by omega, hacc2, by decide, by decide⟩
          · have c2 := of_decide_eq_false c2
            rw [if_neg c2] at hacc2
            exact qe _ hacc2.symm s1
      · rintro σ H1 ⟨s1, acc, n, y, rfl, h1, hal, hacc, n0, n2⟩
        rw [List.drop_length] at hacc
        repeat' walk_at "g"
        have hacc2 : Option.map (acc ++ ·) (if n = 2 then none else some []) = unst 0 xs := hacc
        rw [decV]
        by_cases ck : n = 2
        · rw [decide_eq_true ck]
          rw [if_pos ck] at hacc2
          exact qe _ hacc2.symm s1
        · rw [decide_eq_false ck]
          rw [if_neg ck] at hacc2
          refine ⟨_, rfl, q _ _ acc ?_ s1 nfo h1⟩
          rw [← hacc2]; simp
    · exact ⟨_, rfl, _, rfl, .inr ⟨bad, q⟩⟩
theorem ok_l_unstuffed (T : Txt K mg) : FnOk P w K mg base CX0 1 T.a_l_unstuffed T.d_l_unstuffed ["_law_row"] spLUnstuffed := by
  refine T.F_l_unstuffed.ok sc_l_unstuffed (fun vs H Q E h => ?_) (fun cdv A outer s H vs Q E hr h => ?_)
  · obtain ⟨a, xs, rfl, _⟩ := h
    rfl
  · obtain ⟨a, xs, rfl, ha, hx, hlen, q, qe⟩ := h
    refine ⟨_, (pss_cons (ps_set (i := 1) sc_l_unstuffed.nd rfl (Or.inl rfl) (pe_lst pa_nil))
      (pss_cons (ps_set (i := 2) sc_l_unstuffed.nd rfl (Or.inl rfl) pe_int)
      (pss_cons (ps_while PassesOwn.never (pt_cmpR op_lt (pv 2) (pe_callB call_len_seq (by rfl) T.m_len (by decide +kernel) (pa_cons (pv 0) pa_nil)) (nomark _)) (pss_one (ps_if (pt_cmpR (op_eqD hr.units) (pe_slice sl_list (pv 0) (po_some (pv 2)) (po_some (pe_op op_add (pv 2) pe_int))) (pe_lst (pa_cons pe_int (pa_cons pe_int pa_nil))) (nomark _)) (pss_cons (ps_if (pt_cmpR (op_neD hr.units) (pe_slice sl_list (pv 0) (po_some (pe_op op_add (pv 2) pe_int)) (po_some (pe_op op_add (pv 2) pe_int))) (pe_lst (pa_cons pe_int pa_nil)) (nomark _)) (pss_one (ps_ret pe_non)) pss_nil)
      (pss_cons (ps_set (i := 1) sc_l_unstuffed.nd rfl (Or.inl rfl) (pe_op op_cat (pv 1) (pe_lst (pa_cons pe_int (pa_cons pe_int pa_nil)))))
      (pss_one (ps_set (i := 2) sc_l_unstuffed.nd rfl (Or.inl rfl) (pe_op op_add (pv 2) pe_int))))) (pss_cons (ps_expr (pe_bm PySem.F.plainAttrs_list PySem.F.slot_list_append PySem.F.type_list_append mt_append (pv 1) (pa_cons (pe_ix ix_list (pv 0) (pv 2) (fun _ _ => rfl)) pa_nil)))
      (pss_one (ps_set (i := 2) sc_l_unstuffed.nd rfl (Or.inl rfl) (pe_op op_add (pv 2) pe_int)))))))
      (pss_one (ps_ret (pv 1)))))), ?_⟩
    repeat' walk_at "g"
    rename_i fo nfo
    refine while_by (fun σ H' => ∃ (fo : Addr) (acc : List V) (at_ : Nat), σ = [some (.ref a), some (.ref fo), some (.int at_)] ∧ Same H H' ∧ H fo = none ∧ H' fo = some (.lst acc) ∧ acc.length ≤ at_ ∧ at_ ≤ xs.length ∧ (unst 0 (xs.drop at_)).map (acc ++ ·) = unst 0 xs) (fun σ _ => match σ with | [_, _, some (.int m)] => xs.length - m.toNat | _ => 0) ⟨fo, [], 0, rfl, by walk_at "fr", nfo, upd_same, Nat.le_refl _, Nat.zero_le _, by simp⟩ ?_ ?_
    · rintro σ H1 ⟨fo, acc, at_, rfl, s1, nfo, h1, hal, hat, hacc⟩
      have ha1 := s1 _ _ ha
      repeat' walk_at "g"
      refine ifC (fun c => ?_) (fun c => ?_)
      · have c := of_decide_eq_true c
        repeat' walk_at "g"
        rename_i u1 nu1 u2 nu2
        have e2 : cutV xs (some (at_ : Int)) (some ((at_ : Int) + 2)) = (xs.drop at_).take 2 := cutV_nat (k := 2) hat
        refine eqRow (ys := [.int 0, .int 0]) hx.cut rfl (SqL.of (by walk_at "hp")) (SqL.of upd_same) (fun e => ?_) (fun ne => ?_)
        · rw [e2] at e
          obtain ⟨r, hr⟩ : ∃ r, xs.drop at_ = .int 0 :: .int 0 :: r := by
            match hd : xs.drop at_, e with
            | x :: y :: r, e =>
              simp only [List.take, List.cons.injEq] at e
              exact ⟨r, by rw [e.1, e.2.1]⟩
          rw [hr] at hacc
          have hl : at_ + 2 ≤ xs.length := by
            have := congrArg List.length hr
            rw [List.length_drop] at this
            simp only [List.length_cons] at this
            omega
          have hr2 : xs.drop (at_ + 2) = r := by rw [← List.drop_drop, hr]; rfl
          refine ⟨_, rfl, ifT rfl ?_⟩
          have e3 : cutV xs (some ((at_ : Int) + 2)) (some ((at_ : Int) + 3)) = r.take 1 := by
            have h := cutV_nat (xs := xs) (m := at_ + 2) (k := 1) hl
            have q1 : ((at_ + 2 : Nat) : Int) = (at_ : Int) + 2 := by omega
            have q2 : ((at_ + 2 : Nat) : Int) + ((1 : Nat) : Int) = (at_ : Int) + 3 := by omega
            rw [q2, q1, hr2] at h
            exact h
          repeat' walk_at "g"
          rename_i u3 nu3 u4 nu4
          refine neRow (ys := [.int 2]) hx.cut rfl (SqL.of (by walk_at "hp")) (SqL.of upd_same) (fun ee => ?_) (fun ne => ?_)
          · rw [e3] at ee
            obtain ⟨r', rfl⟩ : ∃ r', r = .int 2 :: r' := by
              match r, ee with
              | x :: r', ee =>
                simp only [List.take, List.cons.injEq] at ee
                exact ⟨r', by rw [ee.1]⟩
            rw [unst_zz, Option.map_map] at hacc
            have hl3 : at_ + 3 ≤ xs.length := by
              have := congrArg List.length hr
              rw [List.length_drop] at this
              simp only [List.length_cons] at this
              omega
            have hr3 : xs.drop (at_ + 3) = r' := by
              rw [show at_ + 3 = (at_ + 2) + 1 from rfl, ← List.drop_drop, hr2]; rfl
            repeat' walk_at "g"
            refine ⟨_, _, _, _, rfl, rfl, by walk_at "hp", by walk_at "hp", szb (by simp only [List.length]; omega), fun u6 nu6 => ?_⟩
            repeat' walk_at "g"
            have s6 : Same H _ := Same.new (o := .lst (acc ++ [.int 0, .int 0])) (by walk_at "fr") nu6
            refine ⟨⟨u6, acc ++ [.int 0, .int 0], at_ + 3, rfl, s6, ?_, upd_same, by rw [List.length_append]; simp only [List.length]; omega, hl3, ?_⟩, ?_⟩
            · exact Same.none (by walk_at "fr") nu6
            · rw [hr3, ← hacc]
              congr 1
              funext l
              simp
            · show xs.length - ((at_ : Int) + 3).toNat < xs.length - ((at_ : Int)).toNat
              omega
          · rw [e3] at ne
            have hn := unst_zn (r := r) fun r' z => ne (by rw [z]; rfl)
            rw [hn] at hacc
            repeat' walk_at "g"
            exact qe _ hacc.symm (by walk_at "fr")
        · rw [e2] at ne
          have hat2 : at_ < xs.length := by omega
          have hd := List.drop_eq_getElem_cons hat2
          obtain ⟨k, hk, k0, k1⟩ := hx.at (List.getElem?_eq_getElem hat2)
          rw [hk] at hd
          rw [hd] at hacc ne
          rw [unst_one ?side, Option.map_map] at hacc
          case side =>
            intro hz w r' hw
            have hk0 : k = 0 := of_decide_eq_true hz
            subst hk0
            have hwr : w ∈ xs := List.mem_of_mem_drop (i := at_ + 1) (by rw [hw]; exact List.mem_cons_self)
            obtain ⟨m, rfl, _⟩ := hx.mem hwr
            refine decide_eq_false fun hm => ne ?_
            subst hm
            rw [hw]; rfl
          refine ⟨_, rfl, ifF rfl ?_⟩
          repeat' walk_at "g"
          refine ⟨_, _, _, _, rfl, rfl, SqL.of (by walk_at "hp"), atI_nat (List.getElem?_eq_getElem hat2), ?_⟩
          rw [hk]
          refine ⟨_, _, _, rfl, rfl, by walk_at "hp", szbl (by omega), ?_⟩
          repeat' walk_at "g"
          refine ⟨⟨fo, acc ++ [.int k], at_ + 1, rfl, by walk_at "fr", nfo, upd_same, by rw [List.length_append]; simp only [List.length]; omega, hat2, ?_⟩, ?_⟩
          · rw [← hacc]
            congr 1
            funext l
            simp
          · show xs.length - ((at_ : Int) + 1).toNat < xs.length - ((at_ : Int)).toNat
            omega
      · have c := of_decide_eq_false c
        have e : at_ = xs.length := by omega
        subst e
        rw [List.drop_length] at hacc
        refine ⟨_, rfl, q _ _ acc ?_ s1 nfo h1⟩
        rw [← hacc]
        show Option.map (acc ++ ·) (some []) = some acc
        simp
    · exact fun σ H Q Q' k ⟨v, e, w, e2, p, ys, e3, s, i, j, e4, e5, b, e6, q⟩ => ⟨v, e, w, e2, p, ys, e3, s, i, j, e4, e5, b, e6, k _ _ q⟩
end

/-! ### pairs of a word and a row, or of a word and a truth, as data -/
theorem evAll_refl : ∀ ns : List Int, PyData.eqvAll (ns.map PyData.int) (ns.map PyData.int) = true := fun ns => (PySem.W.ked_eqvAll ns ns).trans (decide_eq_true rfl)
theorem shapedP {s : Str} {d : PyData} (hs : PyData.canLay0 (.str s) = true) (h : PyData.canLay0 d = true) (hd : d.depth ≤ 60) : SeqAt.shaped (.tuple [.str s, d]) = true := by
  show (PyData.canLayAll0 [.str s, d] && decide (PyData.depthAll [.str s, d] + 1 ≤ 64)) = true
  have e1 : PyData.canLayAll0 [.str s, d] = true := by simp [PyData.canLayAll0, hs, h]
  rw [e1, Bool.true_and]
  refine decide_eq_true ?_
  simp only [PyData.depthAll, PyData.depth]
  omega
theorem neqPair {K : PySem.W.Frag} {H : Hp} {Q : VK} {p q : Addr} {s : Str} {v w : V} {d : PyData} (hs : PyData.canLay0 (.str s) = true) (h : PyData.canLay0 d = true) (hd : d.depth ≤ 60) (h1 : SqT K H p [.str s, v]) (h2 : SqT K H q [.str s, w]) (d1 : Dp K H v d) (d2 : Dp K H w d) (e : PyData.eqv d d = true) (k : Q (.bl false) H) : rNeD K (.ref p) (.ref q) H Q := by
  refine ⟨_, _, .tup h1 (.cons (.str _) (.cons d1 .nil)), .tup h2 (.cons (.str _) (.cons d2 .nil)), shapedP hs h hd, shapedP hs h hd, ?_⟩
  have e2 : PyData.eqv (.tuple [.str s, d]) (.tuple [.str s, d]) = true := by simp [PyData.eqv, PyData.eqvAll, e]
  rw [e2]; exact k
theorem eqPair {K : PySem.W.Frag} {H : Hp} {Q : VK} {p q : Addr} {s : Str} {v w : V} {d : PyData} (hs : PyData.canLay0 (.str s) = true) (h : PyData.canLay0 d = true) (hd : d.depth ≤ 60) (h1 : SqT K H p [.str s, v]) (h2 : SqT K H q [.str s, w]) (d1 : Dp K H v d) (d2 : Dp K H w d) (e : PyData.eqv d d = true) (k : Q (.bl true) H) : rEqD K (.ref p) (.ref q) H Q := by
  refine ⟨_, _, .tup h1 (.cons (.str _) (.cons d1 .nil)), .tup h2 (.cons (.str _) (.cons d2 .nil)), shapedP hs h hd, shapedP hs h hd, ?_⟩
  have e2 : PyData.eqv (.tuple [.str s, d]) (.tuple [.str s, d]) = true := by simp [PyData.eqv, PyData.eqvAll, e]
  rw [e2]; exact k
theorem Row.dp {K : PySem.W.Frag} {xs : List V} (r : Row xs) : ∃ d, (∀ {H : Hp} {a : Addr}, SqL K H a xs → Dp K H (.ref a) d) ∧ PyData.canLay0 d = true ∧ d.depth ≤ 60 ∧ PyData.eqv d d = true := by
  obtain ⟨ns, rfl⟩ := r.ints
  refine ⟨.list (ns.map PyData.int), fun h => .lst h (dpInts ns), ?_, ?_, ?_⟩
  · show PyData.canLayAll0 _ = true
    exact layInts ns
  · show PyData.depthAll (ns.map PyData.int) + 1 ≤ 60
    rw [depInts]; decide
  · show PyData.eqvAll _ _ = true
    exact evAll_refl ns
def spTold (K : PySem.W.Frag) (aS aU : Addr) : Sp := fun vs H Q _ => ∃ f v, vs = [.ref f, v] ∧
  ((f = aS ∧ ∃ a xs, v = .ref a ∧ H a = some (.lst xs) ∧ Row xs ∧ xs.length ≤ 1000 ∧ ∀ H' t q, Same H H' → H' t = some (.tup [.str "told", .ref q]) → H' q = some (.lst (stf 0 xs)) → Q (.ref t) H') ∨
   (f = aU ∧ ∃ a xs, v = .ref a ∧ H a = some (.lst xs) ∧ Row xs ∧ xs.length ≤ 1000 ∧ (∀ H' t q ys, unst 0 xs = some ys → Same H H' → H' t = some (.tup [.str "told", .ref q]) → H' q = some (.lst ys) → Q (.ref t) H') ∧ (∀ H' t, unst 0 xs = none → Same H H' → H' t = some (.tup [.str "stuffing", .bl false]) → Q (.ref t) H')) ∨
   ((f = aS ∨ f = aU) ∧ Bad K H v ∧ ∀ H' t, Same H H' → H' t = some (.tup [.str "bytes", .bl false]) → Q (.ref t) H'))
def spRight : Sp := fun vs H Q _ => ∃ a xs, vs = [.ref a] ∧ H a = some (.lst xs) ∧ Row xs ∧ xs.length ≤ 1000 ∧ ∀ H', Same H H' → Q (.bl true) H'
section
variable {P : Program} {w : World} {K : PySem.W.Frag} {mg : Str → Option Value} {base : Heap}
theorem ok_l_told (T : Txt K mg) : FnOk P w K mg base CX0 6 T.a_l_told T.d_l_told ["_law_ask", "_law_row"] (spTold K T.a_stuffed T.a_unstuffed) := by
  refine T.F_l_told.ok sc_l_told (fun vs H Q E h => ?_) (fun cdv A outer s H vs Q E hr h => ?_)
  · obtain ⟨f, v, rfl, _⟩ := h
    rfl
  · obtain ⟨f, v, rfl, h⟩ := h
    refine ⟨_, (pss_one (ps_try_mix rfl rfl takes0
        (fun W pn xe tk po => (pss_one (ps_ret (pe_tup (pa_cons pe_str (pa_cons (pe_either (pe_callLS (i := 0) (ok_stuffed T) (hr.mono (by decide)) rfl (Or.inl rfl) T.F_stuffed.kp T.b_stuffed (fun σ => passAt tk σ) (pa_cons (pv 1) pa_nil)) (pe_callLS (i := 0) (ok_unstuffed T) (hr.mono (by decide)) rfl (Or.inl rfl) T.F_unstuffed.kp T.b_unstuffed (fun σ => passAt tk σ) (pa_cons (pv 1) pa_nil))) pa_nil))))))
        (.named (i := 2) sc_l_told.nd rfl rfl ⟨rfl, by decide, .inl T.g_NoBytes⟩ (fun a oe cls d pn hz hf => (pss_one (ps_ret (pe_tup (pa_cons pe_str (pa_cons (pe_callB (call_isEs (K := K) rfl hz hf) (by rfl) T.m_isinstance (by decide +kernel) (pa_cons (pv 2) (pa_cons (pe_tup (pa_cons (pe_glob (v := .ref T.c_NoNumber) (by rfl) T.g_NoNumber rfl) (pa_cons (pe_glob (v := .ref T.c_NoPlace) (by rfl) T.g_NoPlace rfl) (pa_cons (pe_glob (v := .ref T.c_NoStuffing) (by rfl) T.g_NoStuffing rfl) pa_nil)))) pa_nil))) pa_nil)))))) (.named (i := 2) sc_l_told.nd rfl rfl ⟨rfl, by decide, .inl T.g_NoStuffing⟩ (fun a oe cls d pn hz hf => (pss_one (ps_ret (pe_tup (pa_cons pe_str (pa_cons (pe_callB (call_isEs (K := K) rfl hz hf) (by rfl) T.m_isinstance (by decide +kernel) (pa_cons (pv 2) (pa_cons (pe_tup (pa_cons (pe_glob (v := .ref T.c_NoNumber) (by rfl) T.g_NoNumber rfl) (pa_cons (pe_glob (v := .ref T.c_NoPlace) (by rfl) T.g_NoPlace rfl) (pa_cons (pe_glob (v := .ref T.c_NoBytes) (by rfl) T.g_NoBytes rfl) pa_nil)))) pa_nil))) pa_nil)))))) (.bare ⟨rfl, by decide, .inl T.g_ScrollError⟩ (fun a oe cls d pn hz hf => (pss_one (ps_ret (pe_tup (pa_cons pe_str (pa_cons pe_bl pa_nil)))))) .nil))))), ?_⟩
    have byte : ∀ H1, Same H H1 → (∀ H' t, Same H H' → H' t = some (.tup [.str "bytes", .bl false]) → Q (.ref t) H') → True := fun _ _ _ => trivial
    rcases h with ⟨rfl, a, xs, rfl, ha, hx, hlen, q⟩ | ⟨rfl, a, xs, rfl, ha, hx, hlen, q, qe⟩ | ⟨hf, bad, q⟩
    · refine .inl ⟨rfl, _, rfl, _, rfl, .inl ⟨_, _, rfl, ha, hx, hlen, fun H1 r s1 nr h1 => ?_⟩⟩
      refine ⟨sz rfl, fun t nt => q _ _ _ (by walk_at "fr") upd_same (by walk_at "hp")⟩
    · refine .inr ⟨rfl, _, rfl, _, rfl, .inl ⟨_, _, rfl, ha, hx, hlen, fun H1 r ys e s1 nr h1 => ?_, fun H1 e s1 => ?_⟩⟩
      · refine ⟨sz rfl, fun t nt => q _ _ _ _ e (by walk_at "fr") upd_same (by walk_at "hp")⟩
      · refine ⟨false, T.em_NoStuffing_NoBytes, fun z => Bool.noConfusion z, fun _ => ⟨true, T.em_NoStuffing_NoStuffing, fun _ x nx => ?_, fun z => Bool.noConfusion z⟩⟩
        refine ⟨_, rfl, sz rfl, fun tp ntp => ?_⟩
        refine ⟨_, _, _, _, false, rfl, rfl, T.xc_NoStuffing, rfl, upd_same, .cons (.own _) (.cons (.own _) (.cons (.own _) .nil)), kitAny_cons T.io_NoStuffing_NoNumber (fun _ => kitAny_cons T.io_NoStuffing_NoPlace (fun _ => kitAny_cons T.io_NoStuffing_NoBytes (fun _ => rfl) (fun z => nomatch z)) (fun z => nomatch z)) (fun z => nomatch z), ?_⟩
        refine ⟨sz rfl, fun t nt => qe _ _ e (by walk_at "fr") upd_same⟩
    · have fin : ∀ x : Addr, H x = none → True := fun _ _ => trivial
      rcases hf with rfl | rfl
      · refine .inl ⟨rfl, _, rfl, _, rfl, .inr ⟨bad, true, T.em_NoBytes_NoBytes, fun _ x nx => ?_, fun z => Bool.noConfusion z⟩⟩
        refine ⟨_, rfl, sz rfl, fun tp ntp => ?_⟩
        refine ⟨_, _, _, _, false, rfl, rfl, T.xc_NoBytes, rfl, upd_same, .cons (.own _) (.cons (.own _) (.cons (.own _) .nil)), kitAny_cons T.io_NoBytes_NoNumber (fun _ => kitAny_cons T.io_NoBytes_NoPlace (fun _ => kitAny_cons T.io_NoBytes_NoStuffing (fun _ => rfl) (fun z => nomatch z)) (fun z => nomatch z)) (fun z => nomatch z), ?_⟩
        refine ⟨sz rfl, fun t nt => q _ _ (by walk_at "fr") upd_same⟩
      · refine .inr ⟨rfl, _, rfl, _, rfl, .inr ⟨bad, true, T.em_NoBytes_NoBytes, fun _ x nx => ?_, fun z => Bool.noConfusion z⟩⟩
        refine ⟨_, rfl, sz rfl, fun tp ntp => ?_⟩
        refine ⟨_, _, _, _, false, rfl, rfl, T.xc_NoBytes, rfl, upd_same, .cons (.own _) (.cons (.own _) (.cons (.own _) .nil)), kitAny_cons T.io_NoBytes_NoNumber (fun _ => kitAny_cons T.io_NoBytes_NoPlace (fun _ => kitAny_cons T.io_NoBytes_NoStuffing (fun _ => rfl) (fun z => nomatch z)) (fun z => nomatch z)) (fun z => nomatch z), ?_⟩
        refine ⟨sz rfl, fun t nt => q _ _ (by walk_at "fr") upd_same⟩
end

section
variable {P : Program} {w : World} {K : PySem.W.Frag} {mg : Str → Option Value} {base : Heap}
theorem ok_l_right (T : Txt K mg) : FnOk P w K mg base CX0 7 T.a_l_right T.d_l_right ["_law_row"] spRight := by
  refine T.F_l_right.ok sc_l_right (fun vs H Q E h => ?_) (fun cdv A outer s H vs Q E hr h => ?_)
  · obtain ⟨a, xs, rfl, _⟩ := h
    rfl
  · obtain ⟨a, xs, rfl, ha, hx, hlen, q⟩ := h
    refine ⟨_, (pss_cons (ps_set (i := 1) sc_l_right.nd rfl (Or.inl rfl) (pe_callTy call_list_of (by rfl) T.m_list (by decide +kernel) (pa_cons (pv 0) pa_nil)))
      (pss_cons (ps_if (PW.pt (pw_or (pt_cmpR (op_neD hr.units) (pe_call (ok_l_told T) (hr.mono (by decide)) (by rfl) T.g_l_told T.F_l_told.kp T.b_l_told .nil pass0 (pa_cons (pe_glob (v := .ref T.a_stuffed) (by rfl) T.g_stuffed rfl) (pa_cons (pv 1) pa_nil))) (pe_tup (pa_cons pe_str (pa_cons (pe_call (ok_l_stuffed T) (hr.mono (by decide)) (by rfl) T.g_l_stuffed T.F_l_stuffed.kp T.b_l_stuffed .nil pass0 (pa_cons (pv 0) pa_nil)) pa_nil))) (nomark _)) (pw_or1 (pt_cmpR (op_neD hr.units) (pv 1) (pv 0) (nomark _))))) (pss_one (ps_ret pe_bl)) pss_nil)
      (pss_cons (ps_set (i := 2) sc_l_right.nd rfl (Or.inl rfl) (pe_call (ok_l_unstuffed T) (hr.mono (by decide)) (by rfl) T.g_l_unstuffed T.F_l_unstuffed.kp T.b_l_unstuffed .nil pass0 (pa_cons (pv 0) pa_nil)))
      (pss_cons (ps_set (i := 3) sc_l_right.nd rfl (Or.inl rfl) (pe_call (ok_l_told T) (hr.mono (by decide)) (by rfl) T.g_l_told T.F_l_told.kp T.b_l_told .nil pass0 (pa_cons (pe_glob (v := .ref T.a_unstuffed) (by rfl) T.g_unstuffed rfl) (pa_cons (pv 1) pa_nil))))
      (pss_cons (ps_if (pt_cmpR (op_neD hr.units) (pv 1) (pv 0) (nomark _)) (pss_one (ps_ret pe_bl)) pss_nil)
      (pss_cons (ps_if (pt_cmpR op_isN (pv 2) pe_non (nomark _)) (pss_one (ps_ret (pe_cmpR (op_eqD hr.units) (pv 3) (pe_tup (pa_cons pe_str (pa_cons pe_bl pa_nil))) (nomark _)))) pss_nil)
      (pss_one (ps_ret (pe_and (pe_cmpR (op_eqD hr.units) (pv 3) (pe_tup (pa_cons pe_str (pa_cons (pv 2) pa_nil))) (nomark _)) (pe_one (pe_callB call_isi (by rfl) T.m_isinstance (by decide +kernel) (pa_cons (pe_ix ix_tup (pv 3) pe_int (fun _ _ => rfl)) (pa_cons (pe_bltn (v := .ty "list") (by rfl) T.m_list (by decide +kernel) rfl) pa_nil))))))))))))), ?_⟩
    repeat' walk_at "g"
    intro l nl
    repeat' walk_at "g"
    refine ⟨_, _, rfl, .inl ⟨rfl, _, _, rfl, upd_same, hx, hlen, fun H1 t r s1 h1 hr1 => ?_⟩⟩
    have ha1 : H1 a = some (.lst xs) := by walk_at "hp"
    have hl1 : H1 l = some (.lst xs) := by walk_at "hp"
    have s01 : Same H H1 := by walk_at "fr"
    clear s1
    repeat' walk_at "g"
    refine ⟨_, _, rfl, ha1, hx, hlen, fun H2 r2 s2 nr2 h2 => ?_⟩
    have ha2 : H2 a = some (.lst xs) := by walk_at "hp"
    have hl2 : H2 l = some (.lst xs) := by walk_at "hp"
    have ht2 : H2 t = some (.tup [.str "told", .ref r]) := by walk_at "hp"
    have hr2 : H2 r = some (.lst (stf 0 xs)) := by walk_at "hp"
    have s02 : Same H H2 := by walk_at "fr"
    clear s2 s01 ha1 hl1 h1 hr1
    obtain ⟨d, dp, d1, d2, d3⟩ := (stf_row 0 hx).dp (K := K)
    repeat' walk_at "g"
    rename_i t2 nt2
    refine neqPair (d := d) (by decide +kernel) d1 d2 (SqT.of (by walk_at "hp")) (SqT.of upd_same) (dp (SqL.of (by walk_at "hp"))) (dp (SqL.of (by walk_at "hp"))) d3 ?_
    repeat' walk_at "g"
    refine neqRow hx (SqL.of (by walk_at "hp")) (SqL.of (by walk_at "hp")) ?_
    repeat' walk_at "g"
    refine ⟨_, _, rfl, by walk_at "hp", hx, hlen, fun H3 r3 ys e3 s3 nr3 h3 => ?_, fun H3 e3 s3 => ?_⟩
    · have ha3 : H3 a = some (.lst xs) := by walk_at "hp"
      have hl3 : H3 l = some (.lst xs) := by walk_at "hp"
      have s03 : Same H H3 := by walk_at "fr"
      clear s3 s02 ha2 hl2 ht2 hr2 h2 nt2 nr2 nr3
      repeat' walk_at "g"
      refine ⟨_, _, rfl, .inr (.inl ⟨rfl, _, _, rfl, hl3, hx, hlen, fun H4 t4 r4 ys4 e4 s4 h4 hr4 => ?_, fun H4 t4 e4 => ?_⟩)⟩
      · rw [e3] at e4
        cases e4
        have ha4 : H4 a = some (.lst xs) := by walk_at "hp"
        have hl4 : H4 l = some (.lst xs) := by walk_at "hp"
        have hr3 : H4 r3 = some (.lst ys) := by walk_at "hp"
        have s04 : Same H H4 := by walk_at "fr"
        clear s4
        repeat' walk_at "g"
        refine neqRow hx (SqL.of hl4) (SqL.of ha4) ?_
        obtain ⟨d, dp, d1, d2, d3⟩ := (unst_row hx e3).dp (K := K)
        repeat' walk_at "g"
        rename_i t5 nt5
        refine eqPair (d := d) (by decide +kernel) d1 d2 (SqT.of (by walk_at "hp")) (SqT.of upd_same) (dp (SqL.of (by walk_at "hp"))) (dp (SqL.of (by walk_at "hp"))) d3 ?_
        repeat' walk_at "g"
        refine ⟨_, _, _, _, true, rfl, .ty _, .base (.lst (by walk_at "hp")), kit_ty (by decide +kernel), q _ (by walk_at "fr")⟩
      · rw [e3] at e4; cases e4
    · have ha3 : H3 a = some (.lst xs) := by walk_at "hp"
      have hl3 : H3 l = some (.lst xs) := by walk_at "hp"
      have s03 : Same H H3 := by walk_at "fr"
      clear s3 s02 ha2 hl2 ht2 hr2 h2 nt2 nr2
      repeat' walk_at "g"
      refine ⟨_, _, rfl, .inr (.inl ⟨rfl, _, _, rfl, hl3, hx, hlen, fun H4 t4 r4 ys4 e4 => ?_, fun H4 t4 e4 s4 h4 => ?_⟩)⟩
      · rw [e3] at e4; cases e4
      · have ha4 : H4 a = some (.lst xs) := by walk_at "hp"
        have hl4 : H4 l = some (.lst xs) := by walk_at "hp"
        have s04 : Same H H4 := by walk_at "fr"
        clear s4
        repeat' walk_at "g"
        refine neqRow hx (SqL.of hl4) (SqL.of ha4) ?_
        repeat' walk_at "g"
        rename_i t5 nt5
        exact eqPair (d := .bool false) (by decide +kernel) rfl (by decide) (SqT.of (by walk_at "hp")) (SqT.of upd_same) (.bl _) (.bl _) rfl (q _ (by walk_at "fr"))
end

def spLaw (K : PySem.W.Frag) : Sp := fun vs H Q _ => ∃ (a : Addr) (ns : List Int), vs = [.ref a] ∧ SqL K H a (ns.map V.int) ∧ ns.length ≤ 63 ∧ ∀ H', Q (.bl true) H'
theorem no_start {xs : List V} {i : Nat} (h : (stf 0 xs).drop i |>.take 3 |> (· = [.int 0, .int 0, .int 1])) : False := by
  obtain ⟨suf, e⟩ : ∃ suf, (stf 0 xs).drop i = .int 0 :: .int 0 :: .int 1 :: suf := by
    match hd : (stf 0 xs).drop i, h with
    | x :: y :: z :: r, h =>
      simp only [List.take, List.cons.injEq] at h
      exact ⟨r, by rw [h.1, h.2.1, h.2.2.1]⟩
  have k := unst_start ((stf 0 xs).take i) suf 0 (by decide) (by decide)
  rw [← e, List.take_append_drop, unst_stf (by decide) (by decide)] at k
  cases k
theorem Row.zeros {n : Nat} : Row (List.flatten (List.replicate n [V.int 0])) := Row.of fun v m => by
  obtain ⟨l, hl, hv⟩ := List.mem_flatten.mp m
  rw [List.eq_of_mem_replicate hl] at hv
  exact ⟨0, List.mem_singleton.mp hv, by decide, by decide⟩
section
variable {P : Program} {w : World} {K : PySem.W.Frag} {mg : Str → Option Value} {base : Heap}
theorem ok_law (T : Txt K mg) : FnOk P w K mg base CX0 8 T.a_law T.d_law ["_law_script"] (spLaw K) := by
  refine T.F_law.ok sc_law (fun vs H Q E h => ?_) (fun cdv A outer s H vs Q E hr h => ?_)
  · obtain ⟨a, ns, rfl, _⟩ := h
    rfl
  · obtain ⟨a, ns, rfl, hS, hlen, q⟩ := h
    refine ⟨_, (pss_cons (ps_for PassesOwn.never rfl (pi_list (pe_op op_cat (pe_slice sl_list (pv 0) po_none (po_some pe_int)) (pe_lst (pa_cons pe_int (pa_cons pe_int pa_nil))))) (pg_name (i := 1) sc_law.nd rfl (Or.inl rfl))
        (pss_cons (ps_set (i := 2) sc_law.nd rfl (Or.inl rfl) (pe_lst (pa_cons (pv 1) pa_nil)))
      (pss_cons (ps_set (i := 3) sc_law.nd rfl (Or.inl rfl) (pe_call (ok_l_bytes T) (hr.mono (by decide)) (by rfl) T.g_l_bytes T.F_l_bytes.kp T.b_l_bytes .nil pass0 (pa_cons (pv 2) (pa_cons (pe_call (ok_l_digit T) (hr.mono (by decide)) (by rfl) T.g_l_digit T.F_l_digit.kp T.b_l_digit .nil pass0 (pa_cons (pv 2) (pa_cons pe_int pa_nil))) pa_nil))))
      (pss_cons (ps_if (pt_cmpR op_eq (pe_call (ok_l_digit T) (hr.mono (by decide)) (by rfl) T.g_l_digit T.F_l_digit.kp T.b_l_digit .nil pass0 (pa_cons (pv 2) (pa_cons pe_int pa_nil))) pe_int (nomark _)) (pss_one (ps_set (i := 3) sc_law.nd rfl (Or.inl rfl) (pe_op op_rep (pe_lst (pa_cons pe_int pa_nil)) (pe_call (ok_l_digit T) (hr.mono (by decide)) (by rfl) T.g_l_digit T.F_l_digit.kp T.b_l_digit .nil pass0 (pa_cons (pv 2) (pa_cons pe_int pa_nil)))))) pss_nil)
      (pss_cons (ps_set (i := 4) sc_law.nd rfl (Or.inl rfl) (pe_call (ok_l_stuffed T) (hr.mono (by decide)) (by rfl) T.g_l_stuffed T.F_l_stuffed.kp T.b_l_stuffed .nil pass0 (pa_cons (pv 3) pa_nil)))
      (pss_cons (ps_for PassesOwn.never rfl (pi_range1 (by rfl) T.m_range (pa_cons (pe_op op_sub (pe_callB call_len_seq (by rfl) T.m_len (by decide +kernel) (pa_cons (pv 4) pa_nil)) pe_int) pa_nil)) (pg_name (i := 5) sc_law.nd rfl (Or.inl rfl))
        (pss_one (ps_if (pt_cmpR (op_eqD hr.units) (pe_slice sl_list (pv 4) (po_some (pv 5)) (po_some (pe_op op_add (pv 5) pe_int))) (pe_lst (pa_cons pe_int (pa_cons pe_int (pa_cons pe_int pa_nil)))) (nomark _)) (pss_one (ps_ret pe_bl)) pss_nil)))
      (pss_cons (ps_set (i := 5) sc_law.nd rfl (Or.inl rfl) (pe_call (ok_l_digit T) (hr.mono (by decide)) (by rfl) T.g_l_digit T.F_l_digit.kp T.b_l_digit .nil pass0 (pa_cons (pv 2) (pa_cons (pe_op op_add (pe_callB call_len_seq (by rfl) T.m_len (by decide +kernel) (pa_cons (pv 4) pa_nil)) pe_int) pa_nil))))
      (pss_cons (ps_set (i := 6) sc_law.nd rfl (Or.inl rfl) (pe_ix ix_list (pe_lst (pa_cons pe_int (pa_cons pe_int (pa_cons pe_int (pa_cons (pe_call (ok_l_digit T) (hr.mono (by decide)) (by rfl) T.g_l_digit T.F_l_digit.kp T.b_l_digit .nil pass0 (pa_cons (pv 2) (pa_cons pe_int pa_nil))) pa_nil))))) (pe_call (ok_l_digit T) (hr.mono (by decide)) (by rfl) T.g_l_digit T.F_l_digit.kp T.b_l_digit .nil pass0 (pa_cons (pv 2) (pa_cons pe_int pa_nil))) (fun _ _ => rfl)))
      (pss_cons (ps_set (i := 7) sc_law.nd rfl (Or.inl rfl) (pe_lst (pa_cons (pv 3) (pa_cons (pv 4) (pa_cons (pe_op op_cat (pe_slice sl_list (pv 4) po_none (po_some (pv 5))) (pe_slice sl_list (pv 4) (po_some (pe_op op_add (pv 5) pe_int)) po_none)) (pa_cons (pe_op op_cat (pe_op op_cat (pe_slice sl_list (pv 4) po_none (po_some (pv 5))) (pe_lst (pa_cons (pv 6) pa_nil))) (pe_slice sl_list (pv 4) (po_some (pe_op op_add (pv 5) pe_int)) po_none)) pa_nil))))))
      (pss_cons (ps_set (i := 7) sc_law.nd rfl (Or.inl rfl) (pe_op op_cat (pv 7) (pe_lst (pa_cons (pe_op op_cat (pe_op op_cat (pe_slice sl_list (pv 4) po_none (po_some (pv 5))) (pe_lst (pa_cons (pv 6) pa_nil))) (pe_slice sl_list (pv 4) (po_some (pv 5)) po_none)) (pa_cons (pe_slice sl_list (pv 4) po_none (po_some (pv 5))) (pa_cons (pv 3) pa_nil))))))
      (pss_cons (ps_for PassesOwn.never rfl (pi_list (pv 7)) (pg_name (i := 8) sc_law.nd rfl (Or.inl rfl))
        (pss_one (ps_if (pt_not (pt_val (pe_call (ok_l_right T) (hr.mono (by decide)) (by rfl) T.g_l_right T.F_l_right.kp T.b_l_right .nil pass0 (pa_cons (pv 8) pa_nil)))) (pss_one (ps_ret pe_bl)) pss_nil)))
      (pss_cons (ps_if (pt_cmpR (op_neD hr.units) (pe_call (ok_unstuffed T) (hr.mono (by decide)) (by rfl) T.g_unstuffed T.F_unstuffed.kp T.b_unstuffed .nil passL (pa_cons (pe_call (ok_stuffed T) (hr.mono (by decide)) (by rfl) T.g_stuffed T.F_stuffed.kp T.b_stuffed .nil passL (pa_cons (pv 3) pa_nil)) pa_nil)) (pv 3) (nomark _)) (pss_one (ps_ret pe_bl)) pss_nil)
      (pss_cons (ps_set (i := 9) sc_law.nd rfl (Or.inl rfl) (pe_call (ok_l_odd_row T) (hr.mono (by decide)) (by rfl) T.g_l_odd_row T.F_l_odd_row.kp T.b_l_odd_row .nil pass0 (pa_cons (pv 2) (pa_cons (pv 3) pa_nil))))
      (pss_one (ps_if (PW.pt (pw_or (pt_cmpR (op_neD hr.units) (pe_call (ok_l_told T) (hr.mono (by decide)) (by rfl) T.g_l_told T.F_l_told.kp T.b_l_told .nil pass0 (pa_cons (pe_glob (v := .ref T.a_stuffed) (by rfl) T.g_stuffed rfl) (pa_cons (pv 9) pa_nil))) (pe_tup (pa_cons pe_str (pa_cons pe_bl pa_nil))) (nomark _)) (pw_or1 (pt_cmpR (op_neD hr.units) (pe_call (ok_l_told T) (hr.mono (by decide)) (by rfl) T.g_l_told T.F_l_told.kp T.b_l_told .nil pass0 (pa_cons (pe_glob (v := .ref T.a_unstuffed) (by rfl) T.g_unstuffed rfl) (pa_cons (pv 9) pa_nil))) (pe_tup (pa_cons pe_str (pa_cons pe_bl pa_nil))) (nomark _))))) (pss_one (ps_ret pe_bl)) pss_nil)))))))))))))))
      (pss_one (ps_ret pe_bl))), ?_⟩
    repeat' walk_at "g"
    refine ⟨_, _, rfl, hS, fun sl nsl => ?_⟩
    repeat' walk_at "g"
    have cl := cutV_length (ns.map V.int) none (some 12)
    rw [List.length_map] at cl
    refine ⟨_, _, _, _, rfl, rfl, by walk_at "hp", by walk_at "hp", szn (by simp only [List.length]; omega), fun c nc => ?_⟩
    refine ⟨_, rfl, ⟨_, SqL.of (by walk_at "hp")⟩, ?_⟩
    refine forL (K := K) (a := c) (xs := cutV (ns.map V.int) none (some 12) ++ [.int 0, .int 1]) (fun _ _ σ H' => H' c = some (.lst (cutV (ns.map V.int) none (some 12) ++ [.int 0, .int 1])) ∧ ∃ y1 y2 y3 y4 y5 y6 y7 y8 y9, σ = [some (.ref a), y1, y2, y3, y4, y5, y6, y7, y8, y9]) ?_ ?_ ?_ ?_
    · exact ⟨upd_same, _, _, _, _, _, _, _, _, _, rfl⟩
    · rintro i σ H1 _ ⟨hc, _⟩
      exact SqL.of hc
    · rintro i x σ H1 hi ⟨hc, y1, y2, y3, y4, y5, y6, y7, y8, y9, rfl⟩
      obtain ⟨m, rfl⟩ : ∃ m, x = .int m := by
        rcases List.mem_append.mp (List.mem_of_getElem? hi) with h | h
        · obtain ⟨m, _, e⟩ := List.mem_map.mp (cutV_mem h)
          exact ⟨m, e.symm⟩
        · simp only [List.mem_cons, List.not_mem_nil, or_false] at h
          rcases h with rfl | rfl
          all_goals exact ⟨_, rfl⟩
      generalize cutV (ns.map V.int) none (some 12) ++ [.int 0, .int 1] = cs at hc ⊢
      clear hi nc nsl
      repeat' walk_at "g"
      rename_i p np
      have ncp : c ≠ p := by walk_at "ne"
      refine ⟨_, _, _, rfl, upd_same, .inl ⟨_, rfl⟩, by decide, by decide, fun H2 d2 xs2 f2 h2 st2 d20 d21 => ?_⟩
      have hc2 : H2 c = some (.lst cs) := by walk_at "hp"
      clear f2 hc
      refine ⟨_, _, _, rfl, h2, st2, d20, by omega, fun H3 r xs3 zs f3 h3 st3 hr3 nr row lr => ?_⟩
      have hc3 : H3 c = some (.lst cs) := by walk_at "hp"
      have nrp : r ≠ p := new_ne nr h2
      clear f3 nr hc2 h2 st2
      repeat' walk_at "g"
      walk_at "dg"
      rename_i H4 d4 xs4 f4 h4 st4 d40 d41
      have hc4 : H4 c = some (.lst cs) := by walk_at "hp"
      have hr4 : H4 r = some (.lst zs) := by walk_at "hp"
      clear f4 hc3 hr3 h3 st3
      repeat' walk_at "g"
      generalize hR : (tSeq _ _ _ : L2.St → Hp → Prop) = R
      have rest : ∀ (r : Addr) (zs xs4 : List V) (H4 : Hp), r ≠ p → H4 r = some (.lst zs) → Row zs → zs.length ≤ 40 → H4 p = some (.lst xs4) → IsSt xs4 → H4 c = some (.lst cs) → R [some (.ref a), some (.int m), some (.ref p), some (.ref r), y4, y5, y6, y7, y8, y9] H4 := by
        subst hR
        clear hc4 hr4 h4 st4 d40 d41 lr row nrp hr
        intro r zs xs4 H4 nrp hr4 row lr h4 st4 hc4
        repeat' walk_at "g"
        refine ⟨_, _, rfl, hr4, row, by omega, fun H5 t s5 nt h5 => ?_⟩
        have hc5 : H5 c = some (.lst cs) := by walk_at "hp"
        have hr5 : H5 r = some (.lst zs) := by walk_at "hp"
        have hp5 : H5 p = some (.lst xs4) := by walk_at "hp"
        have ntp : t ≠ p := new_ne nt h4
        have rowT := stf_row 0 row
        have lT := stf_len (xs := zs) 0
        have nost : ∀ i : Nat, i ≤ (stf 0 zs).length → cutV (stf 0 zs) (some (0 + (i : Int))) (some (0 + (i : Int) + 3)) = [.int 0, .int 0, .int 1] → False := fun i hi e => by
          rw [Int.zero_add, show ((i : Int) + 3) = (i : Int) + ((3 : Nat) : Int) from rfl, cutV_nat hi] at e
          exact no_start e
        have unT : unst 0 (stf 0 zs) = some zs := unst_stf (by decide) (by decide)
        generalize hth : stf 0 zs = th at h5 rowT lT nost unT
        clear s5 hc4 hr4 h4 nt
        repeat' walk_at "g"
        refine ⟨by omega, by omega, ?_⟩
        refine forR (lo := 0) (n := (((th.length : Nat) : Int) - 2).toNat) (fun H0 i σ H' => Same H0 H' ∧ ∃ z5, σ = [some (.ref a), some (.int m), some (.ref p), some (.ref r), some (.ref t), z5, y6, y7, y8, y9]) ?_ ?_ ?_
        · exact ⟨Same.refl _, _, rfl⟩
        · rintro i σ H6 hi ⟨s6, z5, rfl⟩
          have h6 := s6 _ _ h5
          repeat' walk_at "g"
          rename_i u1 nu1 u2 nu2
          refine eqRow (ys := [.int 0, .int 0, .int 1]) rowT.cut rfl (SqL.of (by walk_at "hp")) (SqL.of upd_same) (fun e => (nost i (by omega) e).elim) (fun _ => ?_)
          repeat' walk_at "g"
          exact ⟨by walk_at "fr", _, rfl⟩
        · rintro σ H6 ⟨s6, z5, rfl⟩
          have hc6 := s6 _ _ hc5
          have hr6 := s6 _ _ hr5
          have hp6 := s6 _ _ hp5
          have h6 := s6 _ _ h5
          clear s6 hc5 hr5 hp5 h5
          repeat' walk_at "g"
          walk_at "dg"
          rename_i H7 d7 xs7 f7 h7 st7 d70 d71
          have hc7 : H7 c = some (.lst cs) := by walk_at "hp"
          have hr7 : H7 r = some (.lst zs) := by walk_at "hp"
          have ht7 : H7 t = some (.lst th) := by walk_at "hp"
          clear f7 hc6 hr6 hp6 h6 st4
          repeat' walk_at "g"
          walk_at "dg"
          rename_i H8 d8 xs8 f8 h8 st8 d80 d81
          have hc8 : H8 c = some (.lst cs) := by walk_at "hp"
          have hr8 : H8 r = some (.lst zs) := by walk_at "hp"
          have ht8 : H8 t = some (.lst th) := by walk_at "hp"
          clear f8 hc7 hr7 ht7 h7 st7
          repeat' walk_at "g"
          walk_at "dg"
          rename_i u9 nu9 H9 d9 xs9 f9 h9 st9 d90 d91
          have hc9 : H9 c = some (.lst cs) := by walk_at "hp"
          have hr9 : H9 r = some (.lst zs) := by walk_at "hp"
          have ht9 : H9 t = some (.lst th) := by walk_at "hp"
          refine' ixP (fun v => ∃ n, v = .int n ∧ 0 ≤ n ∧ n ≤ 255) (SqL.of ?h) d90 ?h1 ?al (fun v hv => ?_)
          case h => walk_at "hp"
          case h1 => exact d91
          case al =>
            intro v hv
            simp only [List.mem_cons, List.not_mem_nil, or_false] at hv
            rcases hv with rfl | rfl | rfl | rfl
            all_goals exact ⟨_, rfl, by omega, by omega⟩
          obtain ⟨b, rfl, b0, b255⟩ := hv
          clear f9 nu9 hc8 hr8 ht8 h8 st8
          have cl1 := cutV_length th none (some d7)
          have cl2 := cutV_length th (some (d7 + 1)) none
          have cl3 := cutV_length th (some d7) none
          repeat' walk_at "g"
          rename_i v1 nv1 v2 nv2
          refine ⟨_, _, _, _, rfl, rfl, by walk_at "hp", by walk_at "hp", szb (by omega), fun q3 nq3 => ?_⟩
          repeat' walk_at "g"
          rename_i v3 nv3 v4 nv4
          refine ⟨_, _, _, _, rfl, rfl, by walk_at "hp", by walk_at "hp", szb (by simp only [List.length]; omega), fun w4 nw4 => ?_⟩
          repeat' walk_at "g"
          rename_i v5 nv5
          refine ⟨_, _, _, _, rfl, rfl, by walk_at "hp", by walk_at "hp", szb (by simp only [List.length_append, List.length]; omega), fun q4 nq4 => ?_⟩
          repeat' walk_at "g"
          rename_i l1 nl1 v6 nv6 v7 nv7
          refine ⟨_, _, _, _, rfl, rfl, by walk_at "hp", by walk_at "hp", szb (by simp only [List.length]; omega), fun w5 nw5 => ?_⟩
          repeat' walk_at "g"
          rename_i v8 nv8
          refine ⟨_, _, _, _, rfl, rfl, by walk_at "hp", by walk_at "hp", szb (by simp only [List.length_append, List.length]; omega), fun q5 nq5 => ?_⟩
          repeat' walk_at "g"
          rename_i q6 nq6 l2 nl2
          intro l3 nl3
          repeat' walk_at "g"
          refine ⟨⟨_, SqL.of upd_same⟩, ?_⟩
          have rb : Row [.int b] := Row.one b0 b255
          refine forL (K := K) (a := l3) (xs := [.ref r, .ref t, .ref q3, .ref q4] ++ [.ref q5, .ref q6, .ref r]) (fun H0 i σ H' => Same H0 H' ∧ (∃ z8, σ = [some (.ref a), some (.int m), some (.ref p), some (.ref r), some (.ref t), some (.int d7), some (.int b), some (.ref l3), z8, y9]) ∧ H0 l3 = some (.lst ([.ref r, .ref t, .ref q3, .ref q4] ++ [.ref q5, .ref q6, .ref r])) ∧ H0 c = some (.lst cs) ∧ H0 p = some (.lst xs9) ∧ H0 r = some (.lst zs) ∧ (∀ x ∈ [V.ref r, V.ref t, V.ref q3, V.ref q4] ++ [V.ref q5, V.ref q6, V.ref r], ∃ o os, x = .ref o ∧ H0 o = some (.lst os) ∧ Row os ∧ os.length ≤ 1000)) ?_ ?_ ?_ ?_
          · refine ⟨Same.refl _, ⟨_, rfl⟩, upd_same, by walk_at "hp", by walk_at "hp", by walk_at "hp", fun x hx => ?_⟩
            simp only [List.cons_append, List.nil_append, List.mem_cons, List.not_mem_nil, or_false] at hx
            rcases hx with rfl | rfl | rfl | rfl | rfl | rfl | rfl
            · exact ⟨_, _, rfl, by walk_at "hp", row, by omega⟩
            · exact ⟨_, _, rfl, by walk_at "hp", rowT, by omega⟩
            · exact ⟨_, _, rfl, by walk_at "hp", rowT.cut.app rowT.cut, by simp only [List.length_append]; omega⟩
            · exact ⟨_, _, rfl, by walk_at "hp", (rowT.cut.app rb).app rowT.cut, by simp only [List.length_append, List.length]; omega⟩
            · exact ⟨_, _, rfl, by walk_at "hp", (rowT.cut.app rb).app rowT.cut, by simp only [List.length_append, List.length]; omega⟩
            · exact ⟨_, _, rfl, by walk_at "hp", rowT.cut, by omega⟩
            · exact ⟨_, _, rfl, by walk_at "hp", row, by omega⟩
          · rintro i σ H10 _ ⟨s10, _, hl, _⟩
            exact SqL.of (s10 _ _ hl)
          · rintro i x σ H10 hi ⟨s10, ⟨z8, rfl⟩, hl, hcc, hpp, hrr, hall⟩
            obtain ⟨o, os, rfl, ho, rowo, lo⟩ := hall x (List.mem_of_getElem? hi)
            repeat' walk_at "g"
            refine ⟨_, _, rfl, s10 _ _ ho, rowo, lo, fun H11 s11 => ?_⟩
            repeat' walk_at "g"
            exact ⟨fun b o h => s11 _ _ (s10 _ _ h), ⟨_, rfl⟩, hl, hcc, hpp, hrr, hall⟩
          · rintro σ H10 ⟨s10, ⟨z8, rfl⟩, hl, hcc, hpp, hrr, hall⟩
            have hc10 := s10 _ _ hcc
            have hp10 := s10 _ _ hpp
            have hr10 := s10 _ _ hrr
            clear s10 hl hcc hpp hrr hall nl3 nl2 nq6 nq5 nv8 nw5 nv7 nv6 nl1 nq4 nv5 nw4 nv4 nv3 nq3 nv2 nv1 hc9 hr9 ht9 h9
            repeat' walk_at "g"
            refine .inl ⟨_, _, rfl, hr10, row, by omega, fun H11 u11 s11 n11 h11 => ?_⟩
            have hc11 := s11 _ _ hc10
            have hp11 := s11 _ _ hp10
            have hr11 := s11 _ _ hr10
            rw [hth] at h11
            clear s11 n11 hc10 hp10 hr10
            refine ⟨_, rfl, .inl ⟨_, _, rfl, h11, rowT, by omega, fun H12 u12 ys e12 s12 n12 h12 => ?_, fun H12 e12 => ?_⟩⟩
            · rw [unT] at e12
              cases e12
              have hc12 := s12 _ _ hc11
              have hp12 := s12 _ _ hp11
              have hr12 := s12 _ _ hr11
              clear s12 n12 hc11 hp11 hr11 h11
              repeat' walk_at "g"
              refine neqRow row (SqL.of h12) (SqL.of hr12) ?_
              repeat' walk_at "g"
              refine ⟨_, _, _, _, rfl, hp12, st9, hr12, row, by omega, nrp, fun H13 v13 xs13 f13 h13 st13 bad13 => ?_⟩
              have hc13 : H13 c = some (.lst cs) := by walk_at "hp"
              clear f13
              repeat' walk_at "g"
              refine ⟨_, _, rfl, .inr (.inr ⟨.inl rfl, bad13, fun H14 t14 s14 h14 => ?_⟩)⟩
              have hc14 := s14 _ _ hc13
              have bad14 := bad13.same s14
              clear s14 bad13
              repeat' walk_at "g"
              rename_i t15 nt15
              refine neqPair (d := .bool false) (by decide +kernel) rfl (by decide) (SqT.of (by walk_at "hp")) (SqT.of upd_same) (.bl _) (.bl _) rfl ?_
              have bad15 := bad14.same (Same.new (o := .tup [.str "bytes", .bl false]) (Same.refl _) nt15)
              have hc15 : upd H14 t15 (.tup [.str "bytes", .bl false]) c = some (.lst cs) := by walk_at "hp"
              repeat' walk_at "g"
              refine ⟨_, _, rfl, .inr (.inr ⟨.inr rfl, bad15, fun H16 t16 s16 h16 => ?_⟩)⟩
              have hc16 := s16 _ _ hc15
              repeat' walk_at "g"
              rename_i t17 nt17
              refine neqPair (d := .bool false) (by decide +kernel) rfl (by decide) (SqT.of (by walk_at "hp")) (SqT.of upd_same) (.bl _) (.bl _) rfl ?_
              repeat' walk_at "g"
              exact ⟨by walk_at "hp", _, _, _, _, _, _, _, _, _, rfl⟩
            · rw [unT] at e12; cases e12
      refine ifC (fun c => ?_) (fun c => ?_)
      · repeat' walk_at "g"
        walk_at "dg"
        rename_i u5 nu5 H5 d5 xs5 f5 h5 st5 d50 d51
        have hu5 : H5 u5 = some (.lst [.int 0]) := by walk_at "hp"
        have hc5 : H5 _ = some (.lst cs) := f5 _ _ ncp (upd_old nu5 hc4)
        repeat' walk_at "g"
        refine ⟨_, _, _, rfl, rfl, hu5, by omega, by omega, szn (by simp only [List.length]; omega), fun u6 nu6 => ?_⟩
        exact rest u6 _ xs5 _ (by walk_at "ne") upd_same Row.zeros (by simp only [List.length_flatten, List.map_replicate, List.sum_replicate_nat, List.length]; omega) (by walk_at "hp") st5 (upd_old nu6 hc5)
      · exact rest r zs xs4 _ nrp hr4 row (by omega) h4 st4 hc4
    · rintro σ H1 ⟨hc, y1, y2, y3, y4, y5, y6, y7, y8, y9, rfl⟩
      exact q _
end
theorem all_mk {l : PySem.W.OpenLaw} {w : World} {K : PySem.W.Frag} {h : Heap} {mg : Str → Option Value} {fa : Addr} (X : K.In h) (G : h.Ns mainGlobals mg) (hfa : mg "law" = some (.ref fa))
    {f0 : Addr} {od0 an0 : Option Addr} {sl0 : Array (Option Value)} {oc0 kV0 dc0 pm0 cd0 ct0 : Value}
    (a0 : PySem.W.nsIn K mainGlobals "is_number" = some (some (.ref f0)))
    (l0 : K.lookup f0 = some ⟨oc0, od0, .func (PySem.W.fnOf "is_number" "is_number" (defArgs s_is_number) (defBody s_is_number) (defScope s_is_number) .none kV0 dc0 pm0 an0 cd0 ct0), sl0⟩) (c0 : PySem.W.codeIn K cd0 "is_number" = true) (k0 : PySem.W.keepIn K (.ref f0) = true)
    {f1 : Addr} {od1 an1 : Option Addr} {sl1 : Array (Option Value)} {oc1 kV1 dc1 pm1 cd1 ct1 : Value}
    (a1 : PySem.W.nsIn K mainGlobals "is_whole" = some (some (.ref f1)))
    (l1 : K.lookup f1 = some ⟨oc1, od1, .func (PySem.W.fnOf "is_whole" "is_whole" (defArgs s_is_whole) (defBody s_is_whole) (defScope s_is_whole) .none kV1 dc1 pm1 an1 cd1 ct1), sl1⟩) (c1 : PySem.W.codeIn K cd1 "is_whole" = true) (k1 : PySem.W.keepIn K (.ref f1) = true)
    {f2 : Addr} {od2 an2 : Option Addr} {sl2 : Array (Option Value)} {oc2 kV2 dc2 pm2 cd2 ct2 : Value}
    (a2 : PySem.W.nsIn K mainGlobals "is_bytes" = some (some (.ref f2)))
    (l2 : K.lookup f2 = some ⟨oc2, od2, .func (PySem.W.fnOf "is_bytes" "is_bytes" (defArgs s_is_bytes) (defBody s_is_bytes) (defScope s_is_bytes) .none kV2 dc2 pm2 an2 cd2 ct2), sl2⟩) (c2 : PySem.W.codeIn K cd2 "is_bytes" = true) (k2 : PySem.W.keepIn K (.ref f2) = true)
    {f3 : Addr} {od3 an3 : Option Addr} {sl3 : Array (Option Value)} {oc3 kV3 dc3 pm3 cd3 ct3 : Value}
    (a3 : PySem.W.nsIn K mainGlobals "refuse_no_bytes" = some (some (.ref f3)))
    (l3 : K.lookup f3 = some ⟨oc3, od3, .func (PySem.W.fnOf "refuse_no_bytes" "refuse_no_bytes" (defArgs s_refuse_no_bytes) (defBody s_refuse_no_bytes) (defScope s_refuse_no_bytes) .none kV3 dc3 pm3 an3 cd3 ct3), sl3⟩) (c3 : PySem.W.codeIn K cd3 "refuse_no_bytes" = true) (k3 : PySem.W.keepIn K (.ref f3) = true)
    {f4 : Addr} {od4 an4 : Option Addr} {sl4 : Array (Option Value)} {oc4 kV4 dc4 pm4 cd4 ct4 : Value}
    (a4 : PySem.W.nsIn K mainGlobals "stuffed" = some (some (.ref f4)))
    (l4 : K.lookup f4 = some ⟨oc4, od4, .func (PySem.W.fnOf "stuffed" "stuffed" (defArgs s_stuffed) (defBody s_stuffed) (defScope s_stuffed) .none kV4 dc4 pm4 an4 cd4 ct4), sl4⟩) (c4 : PySem.W.codeIn K cd4 "stuffed" = true) (k4 : PySem.W.keepIn K (.ref f4) = true)
    {f5 : Addr} {od5 an5 : Option Addr} {sl5 : Array (Option Value)} {oc5 kV5 dc5 pm5 cd5 ct5 : Value}
    (a5 : PySem.W.nsIn K mainGlobals "unstuffed" = some (some (.ref f5)))
    (l5 : K.lookup f5 = some ⟨oc5, od5, .func (PySem.W.fnOf "unstuffed" "unstuffed" (defArgs s_unstuffed) (defBody s_unstuffed) (defScope s_unstuffed) .none kV5 dc5 pm5 an5 cd5 ct5), sl5⟩) (c5 : PySem.W.codeIn K cd5 "unstuffed" = true) (k5 : PySem.W.keepIn K (.ref f5) = true)
    {f6 : Addr} {od6 an6 : Option Addr} {sl6 : Array (Option Value)} {oc6 kV6 dc6 pm6 cd6 ct6 : Value}
    (a6 : PySem.W.nsIn K mainGlobals "_law_digit" = some (some (.ref f6)))
    (l6 : K.lookup f6 = some ⟨oc6, od6, .func (PySem.W.fnOf "_law_digit" "_law_digit" (defArgs s_l_digit) (defBody s_l_digit) (defScope s_l_digit) .none kV6 dc6 pm6 an6 cd6 ct6), sl6⟩) (c6 : PySem.W.codeIn K cd6 "_law_digit" = true) (k6 : PySem.W.keepIn K (.ref f6) = true)
    {f7 : Addr} {od7 an7 : Option Addr} {sl7 : Array (Option Value)} {oc7 kV7 dc7 pm7 cd7 ct7 : Value}
    (a7 : PySem.W.nsIn K mainGlobals "_law_odd_row" = some (some (.ref f7)))
    (l7 : K.lookup f7 = some ⟨oc7, od7, .func (PySem.W.fnOf "_law_odd_row" "_law_odd_row" (defArgs s_l_odd_row) (defBody s_l_odd_row) (defScope s_l_odd_row) .none kV7 dc7 pm7 an7 cd7 ct7), sl7⟩) (c7 : PySem.W.codeIn K cd7 "_law_odd_row" = true) (k7 : PySem.W.keepIn K (.ref f7) = true)
    {f8 : Addr} {od8 an8 : Option Addr} {sl8 : Array (Option Value)} {oc8 kV8 dc8 pm8 cd8 ct8 : Value}
    (a8 : PySem.W.nsIn K mainGlobals "_law_bytes" = some (some (.ref f8)))
    (l8 : K.lookup f8 = some ⟨oc8, od8, .func (PySem.W.fnOf "_law_bytes" "_law_bytes" (defArgs s_l_bytes) (defBody s_l_bytes) (defScope s_l_bytes) .none kV8 dc8 pm8 an8 cd8 ct8), sl8⟩) (c8 : PySem.W.codeIn K cd8 "_law_bytes" = true) (k8 : PySem.W.keepIn K (.ref f8) = true)
    {f9 : Addr} {od9 an9 : Option Addr} {sl9 : Array (Option Value)} {oc9 kV9 dc9 pm9 cd9 ct9 : Value}
    (a9 : PySem.W.nsIn K mainGlobals "_law_stuffed" = some (some (.ref f9)))
    (l9 : K.lookup f9 = some ⟨oc9, od9, .func (PySem.W.fnOf "_law_stuffed" "_law_stuffed" (defArgs s_l_stuffed) (defBody s_l_stuffed) (defScope s_l_stuffed) .none kV9 dc9 pm9 an9 cd9 ct9), sl9⟩) (c9 : PySem.W.codeIn K cd9 "_law_stuffed" = true) (k9 : PySem.W.keepIn K (.ref f9) = true)
    {f10 : Addr} {od10 an10 : Option Addr} {sl10 : Array (Option Value)} {oc10 kV10 dc10 pm10 cd10 ct10 : Value}
    (a10 : PySem.W.nsIn K mainGlobals "_law_unstuffed" = some (some (.ref f10)))
    (l10 : K.lookup f10 = some ⟨oc10, od10, .func (PySem.W.fnOf "_law_unstuffed" "_law_unstuffed" (defArgs s_l_unstuffed) (defBody s_l_unstuffed) (defScope s_l_unstuffed) .none kV10 dc10 pm10 an10 cd10 ct10), sl10⟩) (c10 : PySem.W.codeIn K cd10 "_law_unstuffed" = true) (k10 : PySem.W.keepIn K (.ref f10) = true)
    {f11 : Addr} {od11 an11 : Option Addr} {sl11 : Array (Option Value)} {oc11 kV11 dc11 pm11 cd11 ct11 : Value}
    (a11 : PySem.W.nsIn K mainGlobals "_law_told" = some (some (.ref f11)))
    (l11 : K.lookup f11 = some ⟨oc11, od11, .func (PySem.W.fnOf "_law_told" "_law_told" (defArgs s_l_told) (defBody s_l_told) (defScope s_l_told) .none kV11 dc11 pm11 an11 cd11 ct11), sl11⟩) (c11 : PySem.W.codeIn K cd11 "_law_told" = true) (k11 : PySem.W.keepIn K (.ref f11) = true)
    {f12 : Addr} {od12 an12 : Option Addr} {sl12 : Array (Option Value)} {oc12 kV12 dc12 pm12 cd12 ct12 : Value}
    (a12 : PySem.W.nsIn K mainGlobals "_law_right" = some (some (.ref f12)))
    (l12 : K.lookup f12 = some ⟨oc12, od12, .func (PySem.W.fnOf "_law_right" "_law_right" (defArgs s_l_right) (defBody s_l_right) (defScope s_l_right) .none kV12 dc12 pm12 an12 cd12 ct12), sl12⟩) (c12 : PySem.W.codeIn K cd12 "_law_right" = true) (k12 : PySem.W.keepIn K (.ref f12) = true)
    {f13 : Addr} {od13 an13 : Option Addr} {sl13 : Array (Option Value)} {oc13 kV13 dc13 pm13 cd13 ct13 : Value}
    (a13 : PySem.W.nsIn K mainGlobals "law" = some (some (.ref f13)))
    (l13 : K.lookup f13 = some ⟨oc13, od13, .func (PySem.W.fnOf "law" "law" (defArgs s_law) (defBody s_law) (defScope s_law) .none kV13 dc13 pm13 an13 cd13 ct13), sl13⟩) (c13 : PySem.W.codeIn K cd13 "law" = true) (k13 : PySem.W.keepIn K (.ref f13) = true)
    (z_bool : PySem.W.nsIn K mainGlobals "bool" = some none)
    (z_int : PySem.W.nsIn K mainGlobals "int" = some none)
    (z_isinstance : PySem.W.nsIn K mainGlobals "isinstance" = some none)
    (z_len : PySem.W.nsIn K mainGlobals "len" = some none)
    (z_list : PySem.W.nsIn K mainGlobals "list" = some none)
    (z_range : PySem.W.nsIn K mainGlobals "range" = some none)
    (z_tuple : PySem.W.nsIn K mainGlobals "tuple" = some none)
    {ct_STUFFING : Tok} (g_STUFFING : PySem.W.nsIn K mainGlobals "STUFFING" = some (some (.int 2 ct_STUFFING)))
    {C_ScrollError : Addr} (g_ScrollError : PySem.W.nsIn K mainGlobals "ScrollError" = some (some (.ref C_ScrollError)))
    {C_NoNumber : Addr} (g_NoNumber : PySem.W.nsIn K mainGlobals "NoNumber" = some (some (.ref C_NoNumber)))
    {C_NoBytes : Addr} (g_NoBytes : PySem.W.nsIn K mainGlobals "NoBytes" = some (some (.ref C_NoBytes)))
    (x_NoBytes : PySem.W.excIn K C_NoBytes [.type "ValueError", .type "Exception", .type "BaseException", .type "object"] "ValueError.__new__" = true) (kc_NoBytes : PySem.W.keepIn K (.ref C_NoBytes) = true) (bb_NoBytes : PySem.W.subIn K (.ref C_NoBytes) (.type "BaseException") = some true) (t_NoBytes : PySem.W.typeIn K (.ref C_NoBytes) = some (.type "type"))
    (xa_NoBytes : PySem.W.findIn K (.ref C_NoBytes) "__getattribute__" = some (some (.builtin "BaseException.__getattribute__"))) (xb_NoBytes : PySem.W.findIn K (.ref C_NoBytes) "__getattr__" = some none) (xc_NoBytes : PySem.W.hasDictIn K C_NoBytes = true) (xd_NoBytes : PySem.W.findIn K (.ref C_NoBytes) "__class__" = some (some (.builtin "object.__class__")))
    (xe_NoBytes : PySem.W.specialIn K (.builtin "object.__class__") "__get__" = some (some (.builtin "getset_descriptor.__get__"))) (xf_NoBytes : PySem.W.takesIn K (.builtin "object.__class__") = some true) (xg_NoBytes : PySem.W.mroIn K C_NoBytes (.type "object") = some true)
    {C_NoPlace : Addr} (g_NoPlace : PySem.W.nsIn K mainGlobals "NoPlace" = some (some (.ref C_NoPlace)))
    {C_NoStuffing : Addr} (g_NoStuffing : PySem.W.nsIn K mainGlobals "NoStuffing" = some (some (.ref C_NoStuffing)))
    (x_NoStuffing : PySem.W.excIn K C_NoStuffing [.type "ValueError", .type "Exception", .type "BaseException", .type "object"] "ValueError.__new__" = true) (kc_NoStuffing : PySem.W.keepIn K (.ref C_NoStuffing) = true) (bb_NoStuffing : PySem.W.subIn K (.ref C_NoStuffing) (.type "BaseException") = some true) (t_NoStuffing : PySem.W.typeIn K (.ref C_NoStuffing) = some (.type "type"))
    (xa_NoStuffing : PySem.W.findIn K (.ref C_NoStuffing) "__getattribute__" = some (some (.builtin "BaseException.__getattribute__"))) (xb_NoStuffing : PySem.W.findIn K (.ref C_NoStuffing) "__getattr__" = some none) (xc_NoStuffing : PySem.W.hasDictIn K C_NoStuffing = true) (xd_NoStuffing : PySem.W.findIn K (.ref C_NoStuffing) "__class__" = some (some (.builtin "object.__class__")))
    (xe_NoStuffing : PySem.W.specialIn K (.builtin "object.__class__") "__get__" = some (some (.builtin "getset_descriptor.__get__"))) (xf_NoStuffing : PySem.W.takesIn K (.builtin "object.__class__") = some true) (xg_NoStuffing : PySem.W.mroIn K C_NoStuffing (.type "object") = some true)
    (sb_NoBytes_NoBytes : PySem.W.subIn K (.ref C_NoBytes) (.ref C_NoBytes) = some true) (bs_NoBytes_NoBytes : PySem.W.subIn K (.ref C_NoBytes) (.type "BaseException") = some true) (ts_NoBytes_NoBytes : PySem.W.typeIn K (.ref C_NoBytes) = some (.type "type")) (is_NoBytes_NoBytes : PySem.W.isClsIn K C_NoBytes = true)
    (sb_NoStuffing_NoBytes : PySem.W.subIn K (.ref C_NoStuffing) (.ref C_NoBytes) = some false) (bs_NoStuffing_NoBytes : PySem.W.subIn K (.ref C_NoBytes) (.type "BaseException") = some true) (ts_NoStuffing_NoBytes : PySem.W.typeIn K (.ref C_NoBytes) = some (.type "type")) (is_NoStuffing_NoBytes : PySem.W.isClsIn K C_NoBytes = true)
    (sb_NoBytes_NoStuffing : PySem.W.subIn K (.ref C_NoBytes) (.ref C_NoStuffing) = some false) (bs_NoBytes_NoStuffing : PySem.W.subIn K (.ref C_NoStuffing) (.type "BaseException") = some true) (ts_NoBytes_NoStuffing : PySem.W.typeIn K (.ref C_NoStuffing) = some (.type "type")) (is_NoBytes_NoStuffing : PySem.W.isClsIn K C_NoStuffing = true)
    (sb_NoStuffing_NoStuffing : PySem.W.subIn K (.ref C_NoStuffing) (.ref C_NoStuffing) = some true) (bs_NoStuffing_NoStuffing : PySem.W.subIn K (.ref C_NoStuffing) (.type "BaseException") = some true) (ts_NoStuffing_NoStuffing : PySem.W.typeIn K (.ref C_NoStuffing) = some (.type "type")) (is_NoStuffing_NoStuffing : PySem.W.isClsIn K C_NoStuffing = true)
    (sb_NoBytes_ScrollError : PySem.W.subIn K (.ref C_NoBytes) (.ref C_ScrollError) = some true) (bs_NoBytes_ScrollError : PySem.W.subIn K (.ref C_ScrollError) (.type "BaseException") = some true) (ts_NoBytes_ScrollError : PySem.W.typeIn K (.ref C_ScrollError) = some (.type "type")) (is_NoBytes_ScrollError : PySem.W.isClsIn K C_ScrollError = true)
    (sb_NoStuffing_ScrollError : PySem.W.subIn K (.ref C_NoStuffing) (.ref C_ScrollError) = some true) (bs_NoStuffing_ScrollError : PySem.W.subIn K (.ref C_ScrollError) (.type "BaseException") = some true) (ts_NoStuffing_ScrollError : PySem.W.typeIn K (.ref C_ScrollError) = some (.type "type")) (is_NoStuffing_ScrollError : PySem.W.isClsIn K C_ScrollError = true)
    (io_NoBytes_NoNumber : PySem.W.kitOne K (.ref C_NoBytes) (.ref C_NoNumber) = some false)
    (io_NoStuffing_NoNumber : PySem.W.kitOne K (.ref C_NoStuffing) (.ref C_NoNumber) = some false)
    (io_NoBytes_NoPlace : PySem.W.kitOne K (.ref C_NoBytes) (.ref C_NoPlace) = some false)
    (io_NoStuffing_NoPlace : PySem.W.kitOne K (.ref C_NoStuffing) (.ref C_NoPlace) = some false)
    (io_NoBytes_NoStuffing : PySem.W.kitOne K (.ref C_NoBytes) (.ref C_NoStuffing) = some false)
    (io_NoStuffing_NoStuffing : PySem.W.kitOne K (.ref C_NoStuffing) (.ref C_NoStuffing) = some true)
    (io_NoBytes_NoBytes : PySem.W.kitOne K (.ref C_NoBytes) (.ref C_NoBytes) = some true)
    (io_NoStuffing_NoBytes : PySem.W.kitOne K (.ref C_NoStuffing) (.ref C_NoBytes) = some false)
    : ∃ fd : FuncData, (∀ (s : Shared) (v : Value), BindsTo s fd ⟨[v], []⟩ [("_law_script", v)]) ∧ ∀ base : Heap, K.In base → base.Ns mainGlobals mg → FnOk l.prog w K mg base CX0 8 fa fd ["_law_script"] (spLaw K) := by
  have e := hfa.symm.trans (PySem.W.mg_of X G a13)
  cases e
  have F0 := fun_mk (st := s_is_number) l0 c0 k0
  have F1 := fun_mk (st := s_is_whole) l1 c1 k1
  have F2 := fun_mk (st := s_is_bytes) l2 c2 k2
  have F3 := fun_mk (st := s_refuse_no_bytes) l3 c3 k3
  have F4 := fun_mk (st := s_stuffed) l4 c4 k4
  have F5 := fun_mk (st := s_unstuffed) l5 c5 k5
  have F6 := fun_mk (st := s_l_digit) l6 c6 k6
  have F7 := fun_mk (st := s_l_odd_row) l7 c7 k7
  have F8 := fun_mk (st := s_l_bytes) l8 c8 k8
  have F9 := fun_mk (st := s_l_stuffed) l9 c9 k9
  have F10 := fun_mk (st := s_l_unstuffed) l10 c10 k10
  have F11 := fun_mk (st := s_l_told) l11 c11 k11
  have F12 := fun_mk (st := s_l_right) l12 c12 k12
  have F13 := fun_mk (st := s_law) l13 c13 k13
  have b0 := F0.binds (ps := ["thing"]) fun _ _ _ _ _ _ us hl => match us, hl with | [_], _ => rfl
  have b1 := F1.binds (ps := ["thing", "low", "high"]) fun _ _ _ _ _ _ us hl => match us, hl with | [_, _, _], _ => rfl
  have b2 := F2.binds (ps := ["thing"]) fun _ _ _ _ _ _ us hl => match us, hl with | [_], _ => rfl
  have b3 := F3.binds (ps := ["row"]) fun _ _ _ _ _ _ us hl => match us, hl with | [_], _ => rfl
  have b4 := F4.binds (ps := ["row"]) fun _ _ _ _ _ _ us hl => match us, hl with | [_], _ => rfl
  have b5 := F5.binds (ps := ["row"]) fun _ _ _ _ _ _ us hl => match us, hl with | [_], _ => rfl
  have b6 := F6.binds (ps := ["_law_state", "_law_base"]) fun _ _ _ _ _ _ us hl => match us, hl with | [_, _], _ => rfl
  have b7 := F7.binds (ps := ["_law_state", "_law_row"]) fun _ _ _ _ _ _ us hl => match us, hl with | [_, _], _ => rfl
  have b8 := F8.binds (ps := ["_law_state", "_law_many"]) fun _ _ _ _ _ _ us hl => match us, hl with | [_, _], _ => rfl
  have b9 := F9.binds (ps := ["_law_row"]) fun _ _ _ _ _ _ us hl => match us, hl with | [_], _ => rfl
  have b10 := F10.binds (ps := ["_law_row"]) fun _ _ _ _ _ _ us hl => match us, hl with | [_], _ => rfl
  have b11 := F11.binds (ps := ["_law_ask", "_law_row"]) fun _ _ _ _ _ _ us hl => match us, hl with | [_, _], _ => rfl
  have b12 := F12.binds (ps := ["_law_row"]) fun _ _ _ _ _ _ us hl => match us, hl with | [_], _ => rfl
  have b13 := F13.binds (ps := ["_law_script"]) fun _ _ _ _ _ _ us hl => match us, hl with | [_], _ => rfl
  exact ⟨_, fun s v => .of_eq rfl, fun base _ _ => ok_law { a_is_number := _, d_is_number := _, F_is_number := F0, b_is_number := b0, g_is_number := PySem.W.mg_of X G a0, a_is_whole := _, d_is_whole := _, F_is_whole := F1, b_is_whole := b1, g_is_whole := PySem.W.mg_of X G a1, a_is_bytes := _, d_is_bytes := _, F_is_bytes := F2, b_is_bytes := b2, g_is_bytes := PySem.W.mg_of X G a2, a_refuse_no_bytes := _, d_refuse_no_bytes := _, F_refuse_no_bytes := F3, b_refuse_no_bytes := b3, g_refuse_no_bytes := PySem.W.mg_of X G a3, a_stuffed := _, d_stuffed := _, F_stuffed := F4, b_stuffed := b4, g_stuffed := PySem.W.mg_of X G a4, a_unstuffed := _, d_unstuffed := _, F_unstuffed := F5, b_unstuffed := b5, g_unstuffed := PySem.W.mg_of X G a5, a_l_digit := _, d_l_digit := _, F_l_digit := F6, b_l_digit := b6, g_l_digit := PySem.W.mg_of X G a6, a_l_odd_row := _, d_l_odd_row := _, F_l_odd_row := F7, b_l_odd_row := b7, g_l_odd_row := PySem.W.mg_of X G a7, a_l_bytes := _, d_l_bytes := _, F_l_bytes := F8, b_l_bytes := b8, g_l_bytes := PySem.W.mg_of X G a8, a_l_stuffed := _, d_l_stuffed := _, F_l_stuffed := F9, b_l_stuffed := b9, g_l_stuffed := PySem.W.mg_of X G a9, a_l_unstuffed := _, d_l_unstuffed := _, F_l_unstuffed := F10, b_l_unstuffed := b10, g_l_unstuffed := PySem.W.mg_of X G a10, a_l_told := _, d_l_told := _, F_l_told := F11, b_l_told := b11, g_l_told := PySem.W.mg_of X G a11, a_l_right := _, d_l_right := _, F_l_right := F12, b_l_right := b12, g_l_right := PySem.W.mg_of X G a12, a_law := _, d_law := _, F_law := F13, b_law := b13, g_law := PySem.W.mg_of X G a13, m_bool := PySem.W.mg_none_of X G z_bool, m_int := PySem.W.mg_none_of X G z_int, m_isinstance := PySem.W.mg_none_of X G z_isinstance, m_len := PySem.W.mg_none_of X G z_len, m_list := PySem.W.mg_none_of X G z_list, m_range := PySem.W.mg_none_of X G z_range, m_tuple := PySem.W.mg_none_of X G z_tuple, ct_STUFFING := ct_STUFFING, g_STUFFING := PySem.W.mg_of X G g_STUFFING, c_ScrollError := C_ScrollError, g_ScrollError := PySem.W.mg_of X G g_ScrollError, c_NoNumber := C_NoNumber, g_NoNumber := PySem.W.mg_of X G g_NoNumber, c_NoBytes := C_NoBytes, g_NoBytes := PySem.W.mg_of X G g_NoBytes, x_NoBytes := x_NoBytes, k_NoBytes := kc_NoBytes, bb_NoBytes := bb_NoBytes, t_NoBytes := t_NoBytes, xc_NoBytes := ⟨xa_NoBytes, xb_NoBytes, bb_NoBytes, xc_NoBytes, xd_NoBytes, xe_NoBytes, xf_NoBytes, xg_NoBytes⟩, c_NoPlace := C_NoPlace, g_NoPlace := PySem.W.mg_of X G g_NoPlace, c_NoStuffing := C_NoStuffing, g_NoStuffing := PySem.W.mg_of X G g_NoStuffing, x_NoStuffing := x_NoStuffing, k_NoStuffing := kc_NoStuffing, bb_NoStuffing := bb_NoStuffing, t_NoStuffing := t_NoStuffing, xc_NoStuffing := ⟨xa_NoStuffing, xb_NoStuffing, bb_NoStuffing, xc_NoStuffing, xd_NoStuffing, xe_NoStuffing, xf_NoStuffing, xg_NoStuffing⟩, em_NoBytes_NoBytes := exm_by bs_NoBytes_NoBytes is_NoBytes_NoBytes ts_NoBytes_NoBytes sb_NoBytes_NoBytes, em_NoStuffing_NoBytes := exm_by bs_NoStuffing_NoBytes is_NoStuffing_NoBytes ts_NoStuffing_NoBytes sb_NoStuffing_NoBytes, em_NoBytes_NoStuffing := exm_by bs_NoBytes_NoStuffing is_NoBytes_NoStuffing ts_NoBytes_NoStuffing sb_NoBytes_NoStuffing, em_NoStuffing_NoStuffing := exm_by bs_NoStuffing_NoStuffing is_NoStuffing_NoStuffing ts_NoStuffing_NoStuffing sb_NoStuffing_NoStuffing, em_NoBytes_ScrollError := exm_by bs_NoBytes_ScrollError is_NoBytes_ScrollError ts_NoBytes_ScrollError sb_NoBytes_ScrollError, em_NoStuffing_ScrollError := exm_by bs_NoStuffing_ScrollError is_NoStuffing_ScrollError ts_NoStuffing_ScrollError sb_NoStuffing_ScrollError, io_NoBytes_NoNumber := io_NoBytes_NoNumber, io_NoStuffing_NoNumber := io_NoStuffing_NoNumber, io_NoBytes_NoPlace := io_NoBytes_NoPlace, io_NoStuffing_NoPlace := io_NoStuffing_NoPlace, io_NoBytes_NoStuffing := io_NoBytes_NoStuffing, io_NoStuffing_NoStuffing := io_NoStuffing_NoStuffing, io_NoBytes_NoBytes := io_NoBytes_NoBytes, io_NoStuffing_NoBytes := io_NoStuffing_NoBytes }⟩
end LK
open PySem PySem.W PyProof.Rows
set_option maxHeartbeats 0 in
theorem PySem.Challenge.cw_lanescroll_k33_stuffed_and_unstuffed_holds : PySem.Challenge.rw_lanescroll_k33_stuffed_and_unstuffed.Holds := by
  w_on; o_law; k_head; (case hw => w_witness2)
  k_fill
  refine L2.walk_of (l := PySem.Challenge.rw_lanescroll_k33_stuffed_and_unstuffed) (n := 63) (k := 8) (x := "_law_script") (CX := fun _ => L2.CX0) (sp := fun w => LK.spLaw _) rfl (by decide) rfl ⟨rfl, by decide, by decide⟩ (fun w h Y => PySem.W.kIn_of Y) ?F (fun _ _ a ns hl _ hS => ⟨a, ns, rfl, hS, hl, fun _ => rfl⟩) (fun _ _ _ _ _ h => h)
  case F =>
    intro w mg fa h KX G hmg
    refine' LK.all_mk KX G hmg ?a0 ?l0 ?c0 ?k0 ?a1 ?l1 ?c1 ?k1 ?a2 ?l2 ?c2 ?k2 ?a3 ?l3 ?c3 ?k3 ?a4 ?l4 ?c4 ?k4 ?a5 ?l5 ?c5 ?k5 ?a6 ?l6 ?c6 ?k6 ?a7 ?l7 ?c7 ?k7 ?a8 ?l8 ?c8 ?k8 ?a9 ?l9 ?c9 ?k9 ?a10 ?l10 ?c10 ?k10 ?a11 ?l11 ?c11 ?k11 ?a12 ?l12 ?c12 ?k12 ?a13 ?l13 ?c13 ?k13 ?z_bool ?z_int ?z_isinstance ?z_len ?z_list ?z_range ?z_tuple ?g_STUFFING ?g_ScrollError ?g_NoNumber ?g_NoBytes ?x_NoBytes ?kc_NoBytes ?bb_NoBytes ?t_NoBytes ?xa_NoBytes ?xb_NoBytes ?xc_NoBytes ?xd_NoBytes ?xe_NoBytes ?xf_NoBytes ?xg_NoBytes ?g_NoPlace ?g_NoStuffing ?x_NoStuffing ?kc_NoStuffing ?bb_NoStuffing ?t_NoStuffing ?xa_NoStuffing ?xb_NoStuffing ?xc_NoStuffing ?xd_NoStuffing ?xe_NoStuffing ?xf_NoStuffing ?xg_NoStuffing ?sb_NoBytes_NoBytes ?bs_NoBytes_NoBytes ?ts_NoBytes_NoBytes ?is_NoBytes_NoBytes ?sb_NoStuffing_NoBytes ?bs_NoStuffing_NoBytes ?ts_NoStuffing_NoBytes ?is_NoStuffing_NoBytes ?sb_NoBytes_NoStuffing ?bs_NoBytes_NoStuffing ?ts_NoBytes_NoStuffing ?is_NoBytes_NoStuffing ?sb_NoStuffing_NoStuffing ?bs_NoStuffing_NoStuffing ?ts_NoStuffing_NoStuffing ?is_NoStuffing_NoStuffing ?sb_NoBytes_ScrollError ?bs_NoBytes_ScrollError ?ts_NoBytes_ScrollError ?is_NoBytes_ScrollError ?sb_NoStuffing_ScrollError ?bs_NoStuffing_ScrollError ?ts_NoStuffing_ScrollError ?is_NoStuffing_ScrollError ?io_NoBytes_NoNumber ?io_NoStuffing_NoNumber ?io_NoBytes_NoPlace ?io_NoStuffing_NoPlace ?io_NoBytes_NoStuffing ?io_NoStuffing_NoStuffing ?io_NoBytes_NoBytes ?io_NoStuffing_NoBytes
    (case a0 => k_is)
    (case l0 => k_is)
    (case c0 => k_is)
    (case k0 => k_is)
    (case a1 => k_is)
    (case l1 => k_is)
    (case c1 => k_is)
    (case k1 => k_is)
    (case a2 => k_is)
    (case l2 => k_is)
    (case c2 => k_is)
    (case k2 => k_is)
    (case a3 => k_is)
    (case l3 => k_is)
    (case c3 => k_is)
    (case k3 => k_is)
    (case a4 => k_is)
    (case l4 => k_is)
    (case c4 => k_is)
    (case k4 => k_is)
    (case a5 => k_is)
    (case l5 => k_is)
    (case c5 => k_is)
    (case k5 => k_is)
    (case a6 => k_is)
    (case l6 => k_is)
    (case c6 => k_is)
    (case k6 => k_is)
    (case a7 => k_is)
    (case l7 => k_is)
    (case c7 => k_is)
    (case k7 => k_is)
    (case a8 => k_is)
    (case l8 => k_is)
    (case c8 => k_is)
    (case k8 => k_is)
    (case a9 => k_is)
    (case l9 => k_is)
    (case c9 => k_is)
    (case k9 => k_is)
    (case a10 => k_is)
    (case l10 => k_is)
    (case c10 => k_is)
    (case k10 => k_is)
    (case a11 => k_is)
    (case l11 => k_is)
    (case c11 => k_is)
    (case k11 => k_is)
    (case a12 => k_is)
    (case l12 => k_is)
    (case c12 => k_is)
    (case k12 => k_is)
    (case a13 => k_is)
    (case l13 => k_is)
    (case c13 => k_is)
    (case k13 => k_is)
    (case z_bool => k_is)
    (case z_int => k_is)
    (case z_isinstance => k_is)
    (case z_len => k_is)
    (case z_list => k_is)
    (case z_range => k_is)
    (case z_tuple => k_is)
    (case g_STUFFING => k_is)
    (case g_ScrollError => k_is)
    (case g_NoNumber => k_is)
    (case g_NoBytes => k_is)
    (case x_NoBytes => k_exc)
    (case kc_NoBytes => k_is)
    (case bb_NoBytes => k_is)
    (case t_NoBytes => k_is)
    (case xa_NoBytes => k_is)
    (case xb_NoBytes => k_is)
    (case xc_NoBytes => k_is)
    (case xd_NoBytes => k_is)
    (case xe_NoBytes => k_is)
    (case xf_NoBytes => k_is)
    (case xg_NoBytes => k_is)
    (case g_NoPlace => k_is)
    (case g_NoStuffing => k_is)
    (case x_NoStuffing => k_exc)
    (case kc_NoStuffing => k_is)
    (case bb_NoStuffing => k_is)
    (case t_NoStuffing => k_is)
    (case xa_NoStuffing => k_is)
    (case xb_NoStuffing => k_is)
    (case xc_NoStuffing => k_is)
    (case xd_NoStuffing => k_is)
    (case xe_NoStuffing => k_is)
    (case xf_NoStuffing => k_is)
    (case xg_NoStuffing => k_is)
    (case sb_NoBytes_NoBytes => first | rfl | k_is | k_exc)
    (case bs_NoBytes_NoBytes => k_is)
    (case ts_NoBytes_NoBytes => k_is)
    (case is_NoBytes_NoBytes => k_is)
    (case sb_NoStuffing_NoBytes => first | rfl | k_is | k_exc)
    (case bs_NoStuffing_NoBytes => k_is)
    (case ts_NoStuffing_NoBytes => k_is)
    (case is_NoStuffing_NoBytes => k_is)
    (case sb_NoBytes_NoStuffing => first | rfl | k_is | k_exc)
    (case bs_NoBytes_NoStuffing => k_is)
    (case ts_NoBytes_NoStuffing => k_is)
    (case is_NoBytes_NoStuffing => k_is)
    (case sb_NoStuffing_NoStuffing => first | rfl | k_is | k_exc)
    (case bs_NoStuffing_NoStuffing => k_is)
    (case ts_NoStuffing_NoStuffing => k_is)
    (case is_NoStuffing_NoStuffing => k_is)
    (case sb_NoBytes_ScrollError => first | rfl | k_is | k_exc)
    (case bs_NoBytes_ScrollError => k_is)
    (case ts_NoBytes_ScrollError => k_is)
    (case is_NoBytes_ScrollError => k_is)
    (case sb_NoStuffing_ScrollError => first | rfl | k_is | k_exc)
    (case bs_NoStuffing_ScrollError => k_is)
    (case ts_NoStuffing_ScrollError => k_is)
    (case is_NoStuffing_ScrollError => k_is)
    (case io_NoBytes_NoNumber => first | rfl | k_is | k_exc)
    (case io_NoStuffing_NoNumber => first | rfl | k_is | k_exc)
    (case io_NoBytes_NoPlace => first | rfl | k_is | k_exc)
    (case io_NoStuffing_NoPlace => first | rfl | k_is | k_exc)
    (case io_NoBytes_NoStuffing => first | rfl | k_is | k_exc)
    (case io_NoStuffing_NoStuffing => first | rfl | k_is | k_exc)
    (case io_NoBytes_NoBytes => first | rfl | k_is | k_exc)
    (case io_NoStuffing_NoBytes => first | rfl | k_is | k_exc)
