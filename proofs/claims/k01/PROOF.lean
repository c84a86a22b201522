import PyProof.Rows.All
import Wide.All
import OpenK.AllK
import Wide.FinOn
import PySem.Challenge.RW_lanescroll_k01_fractions_made
import HandS.ForMost
import HandS.ForExc
import HandS.IsInst
import HandS.TupLe
import HandS.Wide
import HandS.Defaults
import HandS.ExcIs
set_option Elab.async false
set_option linter.all false
set_option maxRecDepth 100000
set_option maxHeartbeats 4000000
namespace LK
open PySem PySem.Spec PyProof.Rows L2
def topS (i : Nat) : Stmt := PySem.Challenge.pw_lanescroll_k01_fractions_made.main.body.getD i (.Pass ⟨0, 0, 0, 0⟩)
abbrev s_is_number : Stmt := topS 4
abbrev N_is_number : List Str := ["thing"]
theorem sc_is_number : FnScope N_is_number ["thing"] (defScope s_is_number) := ⟨rfl, rfl, rfl, by decide +kernel, rfl, by decide +kernel, by decide +kernel⟩
abbrev s_common_divisor : Stmt := topS 6
abbrev N_common_divisor : List Str := ["one", "other"]
theorem sc_common_divisor : FnScope N_common_divisor ["one", "other"] (defScope s_common_divisor) := ⟨rfl, rfl, rfl, by decide +kernel, rfl, by decide +kernel, by decide +kernel⟩
abbrev s_fraction : Stmt := topS 7
abbrev N_fraction : List Str := ["top", "bottom", "divisor"]
theorem sc_fraction : FnScope N_fraction ["top", "bottom"] (defScope s_fraction) := ⟨rfl, rfl, rfl, by decide +kernel, rfl, by decide +kernel, by decide +kernel⟩
abbrev s_is_fraction : Stmt := topS 8
abbrev N_is_fraction : List Str := ["thing", "top", "bottom"]
theorem sc_is_fraction : FnScope N_is_fraction ["thing"] (defScope s_is_fraction) := ⟨rfl, rfl, rfl, by decide +kernel, rfl, by decide +kernel, by decide +kernel⟩
abbrev s_is_moment : Stmt := topS 9
abbrev N_is_moment : List Str := ["thing"]
theorem sc_is_moment : FnScope N_is_moment ["thing"] (defScope s_is_moment) := ⟨rfl, rfl, rfl, by decide +kernel, rfl, by decide +kernel, by decide +kernel⟩
abbrev s_less : Stmt := topS 10
abbrev N_less : List Str := ["one", "other"]
theorem sc_less : FnScope N_less ["one", "other"] (defScope s_less) := ⟨rfl, rfl, rfl, by decide +kernel, rfl, by decide +kernel, by decide +kernel⟩
abbrev s_floor : Stmt := topS 11
abbrev N_floor : List Str := ["one"]
theorem sc_floor : FnScope N_floor ["one"] (defScope s_floor) := ⟨rfl, rfl, rfl, by decide +kernel, rfl, by decide +kernel, by decide +kernel⟩
abbrev s_l_cell_at : Stmt := topS 13
abbrev N_l_cell_at : List Str := ["_law_script", "_law_k"]
theorem sc_l_cell_at : FnScope N_l_cell_at ["_law_script", "_law_k"] (defScope s_l_cell_at) := ⟨rfl, rfl, rfl, by decide +kernel, rfl, by decide +kernel, by decide +kernel⟩
abbrev s_l_digit : Stmt := topS 14
abbrev N_l_digit : List Str := ["_law_state", "_law_base", "_law_found", "_law_number_here"]
theorem sc_l_digit : FnScope N_l_digit ["_law_state", "_law_base"] (defScope s_l_digit) := ⟨rfl, rfl, rfl, by decide +kernel, rfl, by decide +kernel, by decide +kernel⟩
abbrev s_l_great : Stmt := topS 15
abbrev N_l_great : List Str := ["_law_state", "_law_number_here", "_law_k"]
theorem sc_l_great : FnScope N_l_great ["_law_state"] (defScope s_l_great) := ⟨rfl, rfl, rfl, by decide +kernel, rfl, by decide +kernel, by decide +kernel⟩
abbrev s_l_number : Stmt := topS 16
abbrev N_l_number : List Str := ["_law_state", "_law_way", "_law_sign", "_law_some"]
theorem sc_l_number : FnScope N_l_number ["_law_state"] (defScope s_l_number) := ⟨rfl, rfl, rfl, by decide +kernel, rfl, by decide +kernel, by decide +kernel⟩
abbrev s_l_shared : Stmt := topS 17
abbrev N_l_shared : List Str := ["_law_one", "_law_other"]
theorem sc_l_shared : FnScope N_l_shared ["_law_one", "_law_other"] (defScope s_l_shared) := ⟨rfl, rfl, rfl, by decide +kernel, rfl, by decide +kernel, by decide +kernel⟩
abbrev s_l_whole : Stmt := topS 18
abbrev N_l_whole : List Str := ["_law_thing"]
theorem sc_l_whole : FnScope N_l_whole ["_law_thing"] (defScope s_l_whole) := ⟨rfl, rfl, rfl, by decide +kernel, rfl, by decide +kernel, by decide +kernel⟩
abbrev s_l_truth : Stmt := topS 19
abbrev N_l_truth : List Str := ["_law_found", "_law_due"]
theorem sc_l_truth : FnScope N_l_truth ["_law_found", "_law_due"] (defScope s_l_truth) := ⟨rfl, rfl, rfl, by decide +kernel, rfl, by decide +kernel, by decide +kernel⟩
abbrev s_l_lowest : Stmt := topS 20
abbrev N_l_lowest : List Str := ["_law_found"]
theorem sc_l_lowest : FnScope N_l_lowest ["_law_found"] (defScope s_l_lowest) := ⟨rfl, rfl, rfl, by decide +kernel, rfl, by decide +kernel, by decide +kernel⟩
abbrev s_l_refused : Stmt := topS 21
abbrev N_l_refused : List Str := ["_law_first", "_law_second", "e"]
theorem sc_l_refused : FnScope N_l_refused ["_law_first", "_law_second"] (defScope s_l_refused) := ⟨rfl, rfl, rfl, by decide +kernel, rfl, by decide +kernel, by decide +kernel⟩
abbrev s_l_written_otherwise : Stmt := topS 22
abbrev N_l_written_otherwise : List Str := ["_law_found", "_law_state", "_law_first", "_law_second", "_law_many", "_law_some"]
theorem sc_l_written_otherwise : FnScope N_l_written_otherwise ["_law_found", "_law_state"] (defScope s_l_written_otherwise) := ⟨rfl, rfl, rfl, by decide +kernel, rfl, by decide +kernel, by decide +kernel⟩
abbrev s_l_right : Stmt := topS 23
abbrev N_l_right : List Str := ["_law_found", "_law_first", "_law_second", "_law_under"]
theorem sc_l_right : FnScope N_l_right ["_law_found", "_law_first", "_law_second"] (defScope s_l_right) := ⟨rfl, rfl, rfl, by decide +kernel, rfl, by decide +kernel, by decide +kernel⟩
abbrev s_law : Stmt := topS 24
abbrev N_law : List Str := ["_law_script", "_law_state", "_law_first", "_law_second", "_law_found", "_law_other", "_law_one", "_law_two", "_law_odd", "_law_thing"]
theorem sc_law : FnScope N_law ["_law_script"] (defScope s_law) := ⟨rfl, rfl, rfl, by decide +kernel, rfl, by decide +kernel, by decide +kernel⟩
def kg_fraction_bottom_top {α : Type} : List α → List α → List α
  | [], [w0, w1] => [w1, w0]
  | _, _ => []
structure Txt (K : PySem.W.Frag) (mg : Str → Option Value) : Type where
  a_is_number : Addr
  d_is_number : FuncData
  F_is_number : Fun K "is_number" "is_number" s_is_number a_is_number d_is_number
  g_is_number : mg "is_number" = some (.ref a_is_number)
  b_is_number : Binds K d_is_number ["thing"] []
  a_common_divisor : Addr
  d_common_divisor : FuncData
  F_common_divisor : Fun K "common_divisor" "common_divisor" s_common_divisor a_common_divisor d_common_divisor
  g_common_divisor : mg "common_divisor" = some (.ref a_common_divisor)
  b_common_divisor : Binds K d_common_divisor ["one", "other"] []
  a_fraction : Addr
  d_fraction : FuncData
  F_fraction : FunD K "fraction" "fraction" (defArgs s_fraction) (defBody s_fraction) (defScope s_fraction) [V.int 1] [] a_fraction d_fraction
  g_fraction : mg "fraction" = some (.ref a_fraction)
  b_fraction : Binds K d_fraction ["top", "bottom"] []
  a_is_fraction : Addr
  d_is_fraction : FuncData
  F_is_fraction : Fun K "is_fraction" "is_fraction" s_is_fraction a_is_fraction d_is_fraction
  g_is_fraction : mg "is_fraction" = some (.ref a_is_fraction)
  b_is_fraction : Binds K d_is_fraction ["thing"] []
  a_is_moment : Addr
  d_is_moment : FuncData
  F_is_moment : Fun K "is_moment" "is_moment" s_is_moment a_is_moment d_is_moment
  g_is_moment : mg "is_moment" = some (.ref a_is_moment)
  b_is_moment : Binds K d_is_moment ["thing"] []
  a_less : Addr
  d_less : FuncData
  F_less : Fun K "less" "less" s_less a_less d_less
  g_less : mg "less" = some (.ref a_less)
  b_less : Binds K d_less ["one", "other"] []
  a_floor : Addr
  d_floor : FuncData
  F_floor : Fun K "floor" "floor" s_floor a_floor d_floor
  g_floor : mg "floor" = some (.ref a_floor)
  b_floor : Binds K d_floor ["one"] []
  a_l_cell_at : Addr
  d_l_cell_at : FuncData
  F_l_cell_at : Fun K "_law_cell_at" "_law_cell_at" s_l_cell_at a_l_cell_at d_l_cell_at
  g_l_cell_at : mg "_law_cell_at" = some (.ref a_l_cell_at)
  b_l_cell_at : Binds K d_l_cell_at ["_law_script", "_law_k"] []
  a_l_digit : Addr
  d_l_digit : FuncData
  F_l_digit : Fun K "_law_digit" "_law_digit" s_l_digit a_l_digit d_l_digit
  g_l_digit : mg "_law_digit" = some (.ref a_l_digit)
  b_l_digit : Binds K d_l_digit ["_law_state", "_law_base"] []
  a_l_great : Addr
  d_l_great : FuncData
  F_l_great : Fun K "_law_great" "_law_great" s_l_great a_l_great d_l_great
  g_l_great : mg "_law_great" = some (.ref a_l_great)
  b_l_great : Binds K d_l_great ["_law_state"] []
  a_l_number : Addr
  d_l_number : FuncData
  F_l_number : Fun K "_law_number" "_law_number" s_l_number a_l_number d_l_number
  g_l_number : mg "_law_number" = some (.ref a_l_number)
  b_l_number : Binds K d_l_number ["_law_state"] []
  a_l_shared : Addr
  d_l_shared : FuncData
  F_l_shared : Fun K "_law_shared" "_law_shared" s_l_shared a_l_shared d_l_shared
  g_l_shared : mg "_law_shared" = some (.ref a_l_shared)
  b_l_shared : Binds K d_l_shared ["_law_one", "_law_other"] []
  a_l_whole : Addr
  d_l_whole : FuncData
  F_l_whole : Fun K "_law_whole" "_law_whole" s_l_whole a_l_whole d_l_whole
  g_l_whole : mg "_law_whole" = some (.ref a_l_whole)
  b_l_whole : Binds K d_l_whole ["_law_thing"] []
  a_l_truth : Addr
  d_l_truth : FuncData
  F_l_truth : Fun K "_law_truth" "_law_truth" s_l_truth a_l_truth d_l_truth
  g_l_truth : mg "_law_truth" = some (.ref a_l_truth)
  b_l_truth : Binds K d_l_truth ["_law_found", "_law_due"] []
  a_l_lowest : Addr
  d_l_lowest : FuncData
  F_l_lowest : Fun K "_law_lowest" "_law_lowest" s_l_lowest a_l_lowest d_l_lowest
  g_l_lowest : mg "_law_lowest" = some (.ref a_l_lowest)
  b_l_lowest : Binds K d_l_lowest ["_law_found"] []
  a_l_refused : Addr
  d_l_refused : FuncData
  F_l_refused : Fun K "_law_refused" "_law_refused" s_l_refused a_l_refused d_l_refused
  g_l_refused : mg "_law_refused" = some (.ref a_l_refused)
  b_l_refused : Binds K d_l_refused ["_law_first", "_law_second"] []
  a_l_written_otherwise : Addr
  d_l_written_otherwise : FuncData
  F_l_written_otherwise : Fun K "_law_written_otherwise" "_law_written_otherwise" s_l_written_otherwise a_l_written_otherwise d_l_written_otherwise
  g_l_written_otherwise : mg "_law_written_otherwise" = some (.ref a_l_written_otherwise)
  b_l_written_otherwise : Binds K d_l_written_otherwise ["_law_found", "_law_state"] []
  a_l_right : Addr
  d_l_right : FuncData
  F_l_right : Fun K "_law_right" "_law_right" s_l_right a_l_right d_l_right
  g_l_right : mg "_law_right" = some (.ref a_l_right)
  b_l_right : Binds K d_l_right ["_law_found", "_law_first", "_law_second"] []
  a_law : Addr
  d_law : FuncData
  F_law : Fun K "law" "law" s_law a_law d_law
  g_law : mg "law" = some (.ref a_law)
  b_law : Binds K d_law ["_law_script"] []
  kb_fraction_bottom_top : KBn K d_fraction ["top", "bottom"] 0 ["bottom", "top"] (fun us ws => kg_fraction_bottom_top us ws) (fun us ws => kg_fraction_bottom_top us ws)
  ds1_fraction : List Value
  v1_fraction : Vals [V.int 1] ds1_fraction
  b1_fraction : Binds K d_fraction ["top", "bottom"] ds1_fraction
  m_ValueError : mg "ValueError" = none
  m_abs : mg "abs" = none
  m_bool : mg "bool" = none
  m_int : mg "int" = none
  m_isinstance : mg "isinstance" = none
  m_len : mg "len" = none
  m_range : mg "range" = none
  m_str : mg "str" = none
  m_tuple : mg "tuple" = none
  c_ScrollError : Addr
  g_ScrollError : mg "ScrollError" = some (.ref c_ScrollError)
  c_NoFraction : Addr
  g_NoFraction : mg "NoFraction" = some (.ref c_NoFraction)
  x_NoFraction : PySem.W.excIn K c_NoFraction [.type "ValueError", .type "Exception", .type "BaseException", .type "object"] "ValueError.__new__" = true
  k_NoFraction : PySem.W.keepIn K (.ref c_NoFraction) = true
  bb_NoFraction : PySem.W.subIn K (.ref c_NoFraction) (.type "BaseException") = some true
  t_NoFraction : PySem.W.typeIn K (.ref c_NoFraction) = some (.type "type")
  xc_NoFraction : ExcC K c_NoFraction
  em_NoFraction_ScrollError : PySem.W.exmOne K (.ref c_NoFraction) (.ref c_ScrollError) = some true
  io_NoFraction_NoFraction : PySem.W.kitOne K (.ref c_NoFraction) (.ref c_NoFraction) = some true
  io_NoFraction_ValueError : PySem.W.kitOne K (.ref c_NoFraction) (.type "ValueError") = some true
/-! ### heaps -/
/-- all but what stands at p is as it was -/
def Frm (p : Addr) (H H' : Hp) : Prop := ∀ b o, b ≠ p → H b = some o → H' b = some o
theorem Frm.get {p q : Addr} {H H' : Hp} {o : HO} (f : Frm p H H') (n : q ≠ p) (h : H q = some o) : H' q = some o := f q o n h
theorem Frm.refl {p : Addr} {H : Hp} : Frm p H H := fun _ _ _ h => h
theorem Frm.trans {p : Addr} {H H1 H2 : Hp} (a : Frm p H H1) (b : Frm p H1 H2) : Frm p H H2 := fun c o n h => b c o n (a c o n h)
theorem Frm.upd {p : Addr} {H : Hp} {o : HO} : Frm p H (upd H p o) := fun c u n h => by rw [upd_ne n]; exact h
theorem upd_old {H : Hp} {a q : Addr} {o o' : HO} (na : H a = none) (h : H q = some o) : upd H a o' q = some o := by
  rw [upd_ne (ne_of_none h na)]; exact h
theorem upd_oth {H : Hp} {a q : Addr} {o o' : HO} (na : q ≠ a) (h : H q = some o) : upd H a o' q = some o := by
  rw [upd_ne na]; exact h
theorem Frm.new {p a : Addr} {H H' : Hp} {o : HO} (f : Frm p H H') (na : H' a = none) : Frm p H (L2.upd H' a o) := fun c u n h => upd_old na (f c u n h)
theorem Frm.upd2 {p : Addr} {H H' : Hp} {o : HO} (f : Frm p H H') : Frm p H (L2.upd H' p o) := f.trans .upd
theorem Frm.own {p a : Addr} {H H' : Hp} {o : HO} (f : Frm p H H') (na : H a = none) : Frm p H (L2.upd H' a o) := fun c u n h => upd_oth (ne_of_none h na) (f c u n h)
theorem Frm.new2 {p a : Addr} {H H' : Hp} {o o2 : HO} (f : Frm p H H') (na : H' a = none) : Frm p H (L2.upd (L2.upd H' a o2) a o) := by rw [upd_upd]; exact f.new na
theorem upd_old2 {H : Hp} {a q : Addr} {o o' o2 : HO} (na : H a = none) (h : H q = some o) : upd (upd H a o2) a o' q = some o := by rw [upd_upd]; exact upd_old na h
theorem new_ne {H : Hp} {a q : Addr} {o : HO} (na : H a = none) (h : H q = some o) : a ≠ q := fun e => by subst e; rw [na] at h; cases h
theorem Same.get {q : Addr} {H H' : Hp} {o : HO} (f : Same H H') (h : H q = some o) : H' q = some o := f q o h
theorem Same.new {a : Addr} {H H' : Hp} {o : HO} (f : Same H H') (na : H' a = none) : Same H (L2.upd H' a o) := fun c u h => upd_old na (f c u h)
theorem Same.new2 {a : Addr} {H H' : Hp} {o o2 : HO} (f : Same H H') (na : H' a = none) : Same H (L2.upd (L2.upd H' a o2) a o) := by rw [upd_upd]; exact Same.new f na
theorem Same.own {a : Addr} {H H' : Hp} {o : HO} (f : Same H H') (na : H a = none) : Same H (L2.upd H' a o) := fun c u h => upd_oth (ne_of_none h na) (f c u h)
theorem Same.frm {p : Addr} {H H' : Hp} (f : Same H H') : Frm p H H' := fun c u _ h => f c u h
/-- what is new to an elder heap and stands apart is no matter -/
theorem Frm.same {p : Addr} {H H' : Hp} (f : Frm p H H') (n : H p = none) : Same H H' := fun c u h => f c u (ne_of_none h n) h
theorem Same.byFrm {p : Addr} {H H1 H2 : Hp} (f : Same H H1) (g : Frm p H1 H2) (n : H p = none) : Same H H2 := fun c u h => g c u (ne_of_none h n) (f c u h)
/-! ### sizes, ifs -/
theorem sz {n : Nat} (h : Nat.ble n 1000 = true) : n ≤ sizeLine := Nat.le_trans (Nat.le_of_ble_eq_true h) (by decide)
theorem szl {n : Nat} (h : Nat.ble n 1000 = true) : n < sizeLine := Nat.lt_of_le_of_lt (Nat.le_of_ble_eq_true h) (by decide)
theorem szn {n : Nat} (h : n ≤ 1000) : n ≤ sizeLine := Nat.le_trans h (by decide)
theorem sznl {n : Nat} (h : n ≤ 1000) : n < sizeLine := Nat.lt_of_le_of_lt h (by decide)
theorem ifT {c : Bool} {A B : Prop} (h : c = true) (a : A) : if c = true then A else B := by rw [if_pos h]; exact a
theorem ifF {c : Bool} {A B : Prop} (h : c = false) (b : B) : if c = true then A else B := by rw [h, if_neg Bool.false_ne_true]; exact b
theorem ifC {c : Bool} {A B : Prop} (a : c = true → A) (b : c = false → B) : if c = true then A else B := by
  cases c with
  | true => exact ifT rfl (a rfl)
  | false => exact ifF rfl (b rfl)
theorem ifAnd {k1 k2 : Bool} {A : Prop} {Q : VK} {H : Hp} (a : Q (.bl k2) H → A) (h : Q (.bl (k1 && k2)) H) : if k1 = true then A else Q (.bl false) H := by
  cases k1 with
  | true => exact ifT rfl (a h)
  | false => exact ifF rfl h
/-! ### items at a drawn place -/
theorem at_nn {α : Type} {xs : List α} {d : Int} (h0 : 0 ≤ d) (h1 : d < xs.length) : ∃ v, atI xs d = some v ∧ v ∈ xs ∧ xs[d.toNat]? = some v := by
  have h2 : d.toNat < xs.length := by omega
  have e : (d.toNat : Int) = d := by omega
  have k := atI_nat (List.getElem?_eq_getElem h2)
  rw [e] at k
  exact ⟨xs[d.toNat], k, List.getElem_mem h2, List.getElem?_eq_getElem h2⟩
theorem ixP {K : PySem.W.Frag} {H : Hp} {Q : VK} {p : Addr} {xs : List V} {d : Int} (R : V → Prop) (hp : SqL K H p xs) (h0 : 0 ≤ d) (h1 : d < xs.length) (all : ∀ v ∈ xs, R v) (k : ∀ v, R v → Q v H) : rIxL K (.ref p) (.int d) H Q := by
  obtain ⟨v, e, m, _⟩ := at_nn h0 h1
  exact ⟨_, _, _, _, rfl, rfl, hp, e, k v (all v m)⟩
theorem ixG {K : PySem.W.Frag} {H : Hp} {Q : VK} {p : Addr} {xs : List V} {d : Int} (hp : SqL K H p xs) (h0 : 0 ≤ d) (h1 : d < xs.length) (k : ∀ v, xs[d.toNat]? = some v → Q v H) : rIxL K (.ref p) (.int d) H Q := by
  obtain ⟨v, e, _, m⟩ := at_nn h0 h1
  exact ⟨_, _, _, _, rfl, rfl, hp, e, k v m⟩
def isI : V → Bool
  | .int _ => true
  | _ => false
theorem ixI {K : PySem.W.Frag} {H : Hp} {Q : VK} {p : Addr} {xs : List V} {d : Int} (hp : SqL K H p xs) (h0 : 0 ≤ d) (h1 : d < xs.length) (all : xs.all isI = true) (k : ∀ i, V.int i ∈ xs → Q (.int i) H) : rIxL K (.ref p) (.int d) H Q := by
  refine ixP (fun v => (∃ i, v = .int i) ∧ v ∈ xs) hp h0 h1 (fun v hv => ⟨?_, hv⟩) (fun v ⟨⟨i, e⟩, m⟩ => ?_)
  · have := List.all_eq_true.mp all v hv
    cases v <;> first | exact ⟨_, rfl⟩ | cases this
  · subst e; exact k i m
/-! ### a call with keywords alone -/
section
variable {X : Cx} {CX : CXT} {k : Nat} {f : Addr} {fd : FuncData} {ps ks : List Str} {sp : Sp} {E : XK} {x : Str} {p pos : Pos} {kws : List Keyword} {tk : TA} {g : List Value → List Value → List Value} {gV : List V → List V → List V}
theorem pe_callN0 (F : FnOk X.prog X.w X.K X.mg X.base CX k f fd ps sp) (hr : Room k X.A) (hg : Gl X x) (hm : X.mg x = some (.ref f)) (hk : PySem.W.keepIn X.K (.ref f) = true) (hb : KBn X.K fd ps 0 ks g gV) (hx : Passes CX X E)
    (hkw : PK X kws tk) (hall : (backToKw pos (keywordEach kws X.env)).all (·.1.isSome) = true := by rfl) (hks : (backToKw pos (keywordEach kws X.env)).filterMap (·.1) = ks := by rfl)
    (hdb : (x == ("__debug__" : Str)) = false := by decide)
    (hpl : ((backTo pos (starEach [] X.env)).any (·.1) || (backToKw pos (keywordEach kws X.env)).any (·.1.isNone)) = false := by rfl) :
    PE X (.Call (.Name x p) [] kws pos) (tCallN 0 ks.length sp gV E tNil tk) := by
  refine ⟨fun pins s σ H Q I h => ?_⟩
  refine wpAny_Call_Name_kw (ld_glob I hg hm ?_ hdb)
  refine PySem.W.callWith_KW0 (h₀ := X.base) I.ok.mod.kin hk hall (thn (hkw.run pos pins s σ H _ I h) fun ws s2 ⟨zs, H2, I2, rz, l1, l2, q2⟩ => ⟨I2.kIn, ?_⟩) hpl
  rw [hks]
  exact run_fnN F hr hb hx I2 .nil rz rfl l2 q2
end
section
variable {K : PySem.W.Frag} {x qual : Str} {st : Stmt} {f : Addr} {fd : FuncData} {ps ks : List Str} {n : Nat}
theorem kbAll {F : Fun K x qual st f fd} {g : {α : Type} → List α → List α → List α} (h : ∀ (kV doc pm : Value) (an : Option Addr) (cdv ct : Value) (us ws : List Value), us.length = n → ws.length = ks.length →
    bindArgs (PySem.W.fnOf x qual (defArgs st) (defBody st) (defScope st) .none kV doc pm an cdv ct) ⟨us, ks.zip ws⟩ = pure (ps.zip (g us ws)))
    (hrel : ∀ {vs : List V} {us : List Value} {zs : List V} {ws : List Value}, Vals vs us → Vals zs ws → Vals (g vs zs) (g us ws)) : KBn K fd ps n ks (fun us ws => g us ws) (fun us ws => g us ws) := by
  obtain ⟨oc, od, kV, doc, pm, an, cdv, ct, osl, rfl, lk, hcd⟩ := F.ex
  exact ⟨fun s us ws _ h1 h2 => .of_eq (h kV doc pm an cdv ct us ws h1 h2), fun r1 r2 => hrel r1 r2⟩
variable {params : Arguments} {body : List Stmt} {scope : Scope} {dvs : List V}
theorem bindsAll {F : FunD K x qual params body scope dvs [] f fd}
    (h : ∀ (T : Addr) (kV doc pm : Value) (an : Option Addr) (cdv ct : Value) (us its : List Value), us.length = ps.length → its.length = dvs.length →
      ∃ k, bindArgs (PySem.W.fnOf x qual params body scope (.ref T) kV doc pm an cdv ct) ⟨us, []⟩ = seqItems? (.ref T) >>= k ∧ k (some its.toArray) = pure (ps.zip us)) (hd : dvs ≠ []) : Binds K fd ps [] := by
  obtain ⟨ds, hv, hb⟩ := F.binds1 (ps := ps) ps.length dvs.length hd (by omega) (fun T kV doc pm an cdv ct us its h1 h2 => by
    obtain ⟨k, e1, e2⟩ := h T kV doc pm an cdv ct us its h1 h2
    refine ⟨k, e1, ?_⟩
    rw [e2, ← h2, List.drop_length, List.append_nil])
  rw [List.drop_length] at hv
  cases hv
  exact hb
theorem kbAllD {F : FunD K x qual params body scope dvs [] f fd} {g : {α : Type} → List α → List α → List α}
    (h : ∀ (T : Addr) (kV doc pm : Value) (an : Option Addr) (cdv ct : Value) (us its ws : List Value), us.length = n → its.length = dvs.length → ws.length = ks.length →
      ∃ k, bindArgs (PySem.W.fnOf x qual params body scope (.ref T) kV doc pm an cdv ct) ⟨us, ks.zip ws⟩ = seqItems? (.ref T) >>= k ∧ k (some its.toArray) = pure (ps.zip (g us ws))) (hd : dvs ≠ [])
    (hrel : ∀ {vs : List V} {us : List Value} {zs : List V} {ws : List Value}, Vals vs us → Vals zs ws → Vals (g vs zs) (g us ws)) : KBn K fd ps n ks (fun us ws => g us ws) (fun us ws => g us ws) := by
  obtain ⟨oc, od, dV, kV, doc, pm, an, cdv, ct, osl, rfl, lk, hcd, hD, hK⟩ := F.ex
  rcases hD with ⟨e, _⟩ | ⟨_, T, o, its, m, rfl, lT, oT, rT⟩
  · exact absurd e hd
  · refine ⟨fun s us ws X l1 l2 => ?_, fun r1 r2 => hrel r1 r2⟩
    obtain ⟨k, e1, e2⟩ := h T kV doc pm an cdv ct us its ws l1 rT.length.symm l2
    refine BindsTo.of_looks fun M => ?_
    rw [e1]
    exact looks_items X lT oT (.of_pure e2)
theorem exm_by {K : PySem.W.Frag} {C S : Addr} (h1 : PySem.W.subIn K (.ref S) (.type "BaseException") = some true) (h2 : PySem.W.isClsIn K S = true) (h3 : PySem.W.typeIn K (.ref S) = some (.type "type")) (h4 : PySem.W.subIn K (.ref C) (.ref S) = some true) :
    PySem.W.exmOne K (.ref C) (.ref S) = some true := by
  have e1 : (PySem.W.subIn K (.ref S) (.type "BaseException") == some true) = true := by rw [h1] <;> rfl
  have e2 : ((PySem.W.clsIn K S).isSome && PySem.W.typeIn K (.ref S) == some (.type "type")) = true := by
    have h2' : (PySem.W.clsIn K S).isSome = true := h2
    rw [h2', h3] <;> rfl
  show (if (PySem.W.subIn K (.ref S) (.type "BaseException") == some true) = true then (if ((PySem.W.clsIn K S).isSome && PySem.W.typeIn K (.ref S) == some (.type "type")) = true then PySem.W.subIn K (.ref C) (.ref S) else none) else none) = some true
  rw [if_pos e1, if_pos e2]
  exact h4
end
/-! ### a < b < c of whole numbers, as one answer -/
def MonoE (t : TE) : Prop := ∀ (σ : L2.St) (H : Hp) (Q Q' : VK), (∀ v H', Q v H' → Q' v H') → t σ H Q → t σ H Q'
theorem mn_var {i : Nat} : MonoE (tVar i) := fun _ _ _ _ k ⟨v, e, q⟩ => ⟨v, e, k _ _ q⟩
theorem mn_c {v : V} : MonoE (tC v) := fun _ _ _ _ k q => k _ _ q
theorem mn_I0 {g : Int → Int → V} {ta tb : TE} (a : MonoE ta) (b : MonoE tb) : MonoE (tOp (rI0 g) ta tb) := fun σ H Q Q' k h =>
  a σ H _ _ (fun _ H1 h1 => b σ H1 _ _ (fun _ _ ⟨i, j, e1, e2, q⟩ => ⟨i, j, e1, e2, k _ _ q⟩) h1) h
theorem mn_I {C : Int → Int → Prop} {g : Int → Int → V} {ta tb : TE} (a : MonoE ta) (b : MonoE tb) : MonoE (tOp (rI C g) ta tb) := fun σ H Q Q' k h =>
  a σ H _ _ (fun _ H1 h1 => b σ H1 _ _ (fun _ _ ⟨i, j, e1, e2, c, q⟩ => ⟨i, j, e1, e2, c, k _ _ q⟩) h1) h
theorem mn_ixL {K : PySem.W.Frag} {ta tb : TE} (a : MonoE ta) (b : MonoE tb) : MonoE (tOp (rIxL K) ta tb) := fun σ H Q Q' k h =>
  a σ H _ _ (fun _ H1 h1 => b σ H1 _ _ (fun _ _ ⟨p, xs, i, v, e1, e2, s, e, q⟩ => ⟨p, xs, i, v, e1, e2, s, e, k _ _ q⟩) h1) h
theorem mn_ixT {K : PySem.W.Frag} {ta tb : TE} (a : MonoE ta) (b : MonoE tb) : MonoE (tOp (rIxT K) ta tb) := fun σ H Q Q' k h =>
  a σ H _ _ (fun _ H1 h1 => b σ H1 _ _ (fun _ _ ⟨p, xs, i, v, e1, e2, s, e, q⟩ => ⟨p, xs, i, v, e1, e2, s, e, k _ _ q⟩) h1) h
theorem mn_len {r : List V → Hp → VK → Prop} {ta : TE} (a : MonoE ta) (hr : ∀ vs H (Q Q' : VK), (∀ v H', Q v H' → Q' v H') → r vs H Q → r vs H Q') : MonoE (tCB r (tCons ta tNil)) := fun σ H Q Q' k h =>
  a σ H _ _ (fun _ H1 h1 => hr _ _ _ _ k h1) h
def tChI (g g' : Int → Int → Bool) (ta tb tc : TE) : TE := fun σ H Q => ta σ H fun x H1 => tb σ H1 fun y H2 => tc σ H2 fun z H3 => ∃ i j l : Int, x = .int i ∧ y = .int j ∧ z = .int l ∧ H3 = H2 ∧ Q (.bl (g i j && g' j l)) H2
/-- what c's reading tells is told at once: c changes nothing -/
theorem tChI_to {g g' : Int → Int → Bool} {ta tb tc : TE} (ma : MonoE ta) (mb : MonoE tb) (mc : MonoE tc) {σ : L2.St} {H : Hp} {Q : VK} (cx : ∀ (σ : L2.St) (H : Hp) (Q : V → Hp → Prop), tc σ H Q → ∃ v H', Q v H') (h : tChI g g' ta tb tc σ H Q) :
    tChain (rI0 fun i j => .bl (g i j)) (rI0 fun i j => .bl (g' i j)) ta tb tc σ H Q := by
  refine ma σ H _ _ (fun x H1 h1 => mb σ H1 _ _ (fun y H2 h2 => ?_) h1) h
  obtain ⟨_, _, i, j, l, ex, ey, _, _, q⟩ := cx _ _ _ h2
  refine ⟨i, j, ex, ey, _, rfl, ?_⟩
  cases e : g i j with
  | true =>
    refine ifT rfl (mc σ H2 _ _ (fun z H3 h3 => ?_) h2)
    obtain ⟨i', j', l', ex', ey', ez, e3, q'⟩ := h3
    have e1 : i' = i := V.int.inj (ex'.symm.trans ex)
    have e2 : j' = j := V.int.inj (ey'.symm.trans ey)
    subst e1 e2 ez e3
    rw [e, Bool.true_and] at q'
    exact ⟨j', l', ey, rfl, q'⟩
  | false =>
    rw [e, Bool.false_and] at q
    exact ifF rfl q
def ShowsE (t : TE) : Prop := ∀ (σ : L2.St) (H : Hp) (Q : V → Hp → Prop), t σ H Q → ∃ v H', Q v H'
theorem sh_var {i : Nat} : ShowsE (tVar i) := fun _ _ _ ⟨v, _, q⟩ => ⟨v, _, q⟩
theorem sh_c {v : V} : ShowsE (tC v) := fun _ _ _ q => ⟨_, _, q⟩
theorem sh_I0 {g : Int → Int → V} {ta tb : TE} (a : ShowsE ta) (b : ShowsE tb) : ShowsE (tOp (rI0 g) ta tb) := fun σ H Q h => by
  obtain ⟨x, H1, h1⟩ := a _ _ _ h
  obtain ⟨y, H2, h2⟩ := b _ _ _ h1
  obtain ⟨i, j, _, _, q⟩ := h2
  exact ⟨_, _, q⟩
theorem sh_I {C : Int → Int → Prop} {g : Int → Int → V} {ta tb : TE} (a : ShowsE ta) (b : ShowsE tb) : ShowsE (tOp (rI C g) ta tb) := fun σ H Q h => by
  obtain ⟨x, H1, h1⟩ := a _ _ _ h
  obtain ⟨y, H2, h2⟩ := b _ _ _ h1
  obtain ⟨i, j, _, _, _, q⟩ := h2
  exact ⟨_, _, q⟩
theorem sh_ixL {K : PySem.W.Frag} {ta tb : TE} (a : ShowsE ta) (b : ShowsE tb) : ShowsE (tOp (rIxL K) ta tb) := fun σ H Q h => by
  obtain ⟨x, H1, h1⟩ := a _ _ _ h
  obtain ⟨y, H2, h2⟩ := b _ _ _ h1
  obtain ⟨_, _, _, _, _, _, _, _, q⟩ := h2
  exact ⟨_, _, q⟩
theorem sh_ixT {K : PySem.W.Frag} {ta tb : TE} (a : ShowsE ta) (b : ShowsE tb) : ShowsE (tOp (rIxT K) ta tb) := fun σ H Q h => by
  obtain ⟨x, H1, h1⟩ := a _ _ _ h
  obtain ⟨y, H2, h2⟩ := b _ _ _ h1
  obtain ⟨_, _, _, _, _, _, _, _, q⟩ := h2
  exact ⟨_, _, q⟩
theorem PE.weak {X : Cx} {e : Expr} {t t' : TE} (h : PE X e t) (w : ∀ σ H Q, t' σ H Q → t σ H Q) : PE X e t' := ⟨fun pins s σ H Q I q => h.run pins s σ H Q I (w _ _ _ q)⟩
theorem pe_chainI {X : Cx} {op op' : CmpOp} {g g' : Int → Int → Bool} {a b c : Expr} {ta tb tc : TE} {pos : Pos} (ho : OpR X (compareOp op) (rI0 fun i j => .bl (g i j))) (ho' : OpR X (compareOp op') (rI0 fun i j => .bl (g' i j)))
    (ha : PE X a ta) (hb : PE X b tb) (hc : PE X c tc) (ma : MonoE ta) (mb : MonoE tb) (mc : MonoE tc) (sc : ShowsE tc) (hm : lastMarks [op, op'] [b, c] = false := by rfl) : PE X (.Compare a [op, op'] [b, c] pos) (tChI g g' ta tb tc) :=
  PE.weak (pe_chain ho ho' ha hb hc hm) (fun _ _ _ h => tChI_to ma mb mc sc h)
/-! ### rules within a comprehension: the written part by its own name -/
section
variable {X : Cx} {K : PySem.W.Frag}
theorem ix_listK (h : X.K = K) : IxR X (rIxL K) := h ▸ ix_list
theorem ix_tupK (h : X.K = K) : IxR X (rIxT K) := h ▸ ix_tup
theorem sl_listK (h : X.K = K) : SlR X (rSlL K) := h ▸ sl_list
theorem call_len_seqK (h : X.K = K) : CallR X (.builtin "len") (fun xs H Q => ∃ p ys, xs = [.ref p] ∧ (SqL K H p ys ∨ SqT K H p ys) ∧ Q (.int ys.length) H) := h ▸ call_len_seq
end
/-! ### comprehensions and loops whose invariants speak of the heap at their begin -/
theorem lcL {K : PySem.W.Frag} {a : Addr} {xs : List V} {g : TG} {tt : TT} {te : TE} {vs : List Nat} {σ : L2.St} {H1 : Hp} {D : Addr} {Qd : Hp → Prop} (Pv : Hp → Nat → Hp → Prop) (h0 : Pv H1 0 (upd H1 D (.lst []))) (hl : ∀ i H, i ≤ xs.length → Pv H1 i H → SqL K H a xs)
    (hs : ∀ i x H, xs[i]? = some x → Pv H1 i H → g x (wipe σ vs) H fun σ2 H2 => wipe σ2 vs = wipe σ vs ∧ tt σ2 H2 fun b H3 =>
      if b = true then te σ2 H3 fun y H4 => ∃ acc, H4 D = some (.lst acc) ∧ acc.length < sizeLine ∧ Pv H1 (i + 1) (upd H4 D (.lst (acc ++ [y]))) else Pv H1 (i + 1) H3) (hd : ∀ H, Pv H1 xs.length H → Qd H) :
    ∃ W : Nat → Nat → Hp → Prop, (∃ m, W 0 m (upd H1 D (.lst []))) ∧ ∀ i m H, W i m H →
      ((Itl K a).stop i H ∧ Qd H) ∨ ((Itl K a).go i H ∧ ∃ Nx : Hp → Prop, (∀ H', Nx H' → ∃ m', m' < m ∧ W (i + 1) m' H') ∧ ∀ x H', (Itl K a).yld i H x H' → g x (wipe σ vs) H' fun σ2 H2 => wipe σ2 vs = wipe σ vs ∧ tt σ2 H2 fun b H3 =>
        if b = true then te σ2 H3 fun y H4 => ∃ acc, H4 D = some (.lst acc) ∧ acc.length < sizeLine ∧ Nx (upd H4 D (.lst (acc ++ [y]))) else Nx H3) := lc_list (Pv H1) h0 hl hs hd
theorem lcR {lo : Int} {n : Nat} {g : TG} {tt : TT} {te : TE} {vs : List Nat} {σ : L2.St} {H1 : Hp} {D : Addr} {Qd : Hp → Prop} (Pv : Hp → Nat → Hp → Prop) (h0 : Pv H1 0 (upd H1 D (.lst [])))
    (hs : ∀ i H, i < n → Pv H1 i H → g (.int (lo + i)) (wipe σ vs) H fun σ2 H2 => wipe σ2 vs = wipe σ vs ∧ tt σ2 H2 fun b H3 =>
      if b = true then te σ2 H3 fun y H4 => ∃ acc, H4 D = some (.lst acc) ∧ acc.length < sizeLine ∧ Pv H1 (i + 1) (upd H4 D (.lst (acc ++ [y]))) else Pv H1 (i + 1) H3) (hd : ∀ H, Pv H1 n H → Qd H) :
    ∃ W : Nat → Nat → Hp → Prop, (∃ m, W 0 m (upd H1 D (.lst []))) ∧ ∀ i m H, W i m H →
      ((Itr lo n).stop i H ∧ Qd H) ∨ ((Itr lo n).go i H ∧ ∃ Nx : Hp → Prop, (∀ H', Nx H' → ∃ m', m' < m ∧ W (i + 1) m' H') ∧ ∀ x H', (Itr lo n).yld i H x H' → g x (wipe σ vs) H' fun σ2 H2 => wipe σ2 vs = wipe σ vs ∧ tt σ2 H2 fun b H3 =>
        if b = true then te σ2 H3 fun y H4 => ∃ acc, H4 D = some (.lst acc) ∧ acc.length < sizeLine ∧ Nx (upd H4 D (.lst (acc ++ [y]))) else Nx H3) := lc_range (Pv H1) h0 hs hd
theorem forL {K : PySem.W.Frag} {a : Addr} {xs : List V} {g : TG} {tb : TS} {D : Ends} {σ : L2.St} {H : Hp} (Pv : Hp → Nat → L2.St → Hp → Prop) (h0 : Pv H 0 σ H) (hl : ∀ i σ H', i ≤ xs.length → Pv H i σ H' → SqL K H' a xs)
    (hs : ∀ i x σ H', xs[i]? = some x → Pv H i σ H' → g x σ H' fun σ2 H2 => tb { D with nx := Pv H (i + 1), ct := Pv H (i + 1), bk := D.nx } σ2 H2) (hd : ∀ σ H', Pv H xs.length σ H' → D.nx σ H') :
    ∃ W : Nat → Nat → L2.St → Hp → Prop, (∃ m, W 0 m σ H) ∧ ∀ i m σ H, W i m σ H →
      ((Itl K a).stop i H ∧ D.nx σ H) ∨ ((Itl K a).go i H ∧ ∃ N : L2.St → Hp → Prop, (∀ σ' H', N σ' H' → ∃ m', m' < m ∧ W (i + 1) m' σ' H') ∧ ∀ x H', (Itl K a).yld i H x H' → g x σ H' fun σ2 H2 => tb { D with nx := N, ct := N, bk := D.nx } σ2 H2) := for_list (Pv H) h0 hl hs hd
theorem forR {lo : Int} {n : Nat} {g : TG} {tb : TS} {D : Ends} {σ : L2.St} {H : Hp} (Pv : Hp → Nat → L2.St → Hp → Prop) (h0 : Pv H 0 σ H)
    (hs : ∀ i σ H', i < n → Pv H i σ H' → g (.int (lo + i)) σ H' fun σ2 H2 => tb { D with nx := Pv H (i + 1), ct := Pv H (i + 1), bk := D.nx } σ2 H2) (hd : ∀ σ H', Pv H n σ H' → D.nx σ H') :
    ∃ W : Nat → Nat → L2.St → Hp → Prop, (∃ m, W 0 m σ H) ∧ ∀ i m σ H, W i m σ H →
      ((Itr lo n).stop i H ∧ D.nx σ H) ∨ ((Itr lo n).go i H ∧ ∃ N : L2.St → Hp → Prop, (∀ σ' H', N σ' H' → ∃ m', m' < m ∧ W (i + 1) m' σ' H') ∧ ∀ x H', (Itr lo n).yld i H x H' → g x σ H' fun σ2 H2 => tb { D with nx := N, ct := N, bk := D.nx } σ2 H2) := for_range (Pv H) h0 hs hd
/-- a call's answer when nothing but it matters: the heap by a name -/
theorem name_heap {P : Hp → Prop} {H : Hp} (h : ∀ H', H' = H → P H') : P H := h H rfl
/-! ### isinstance of a caught error, whatever its class -/
theorem call_isE2 {X : Cx} {K : PySem.W.Frag} {a : Addr} {oe : Obj} {cls : Value} {d : Option Addr} {pn : List (Addr × Obj)} (hK : X.K = K) (hz : Zc cls d oe) (hf : ∃ vs, oe.data = .fields vs) :
    CallR (X.suite a ((a, oe) :: pn)) (.builtin "isinstance") (fun xs H Q => ∃ D, cls = .ref D ∧ d = none ∧ ExcC K D ∧ rIsE K D a xs H Q) := by
  subst hK
  intro pins s σ H xs us Q I r h
  obtain ⟨D, rfl, rfl, C, h⟩ := h
  exact call_isE C hz hf pins s σ H xs us Q I r h
/-! ### sizes of whole numbers -/
def Sm (n : Nat) (x : Int) : Prop := x.natAbs < 2 ^ n
theorem Sm.mono {a b : Nat} {x : Int} (h : Sm a x) (l : a ≤ b) : Sm b x := Nat.lt_of_lt_of_le h (Nat.pow_le_pow_right (by decide) l)
theorem Sm.mul {a b : Nat} {x y : Int} (h : Sm a x) (k : Sm b y) : Sm (a + b) (x * y) := wide_lt h k
theorem Sm.add {a b : Nat} {x y : Int} (h : Sm a x) (k : Sm b y) : Sm (a + b + 1) (x + y) := by
  have h1 := Sm.mono h (Nat.le_add_right a b)
  have h2 := Sm.mono k (Nat.le_add_left b a)
  unfold Sm at *
  rw [Nat.pow_succ]
  omega
theorem Sm.sub {a b : Nat} {x y : Int} (h : Sm a x) (k : Sm b y) : Sm (a + b + 1) (x - y) := by
  have h1 := Sm.mono h (Nat.le_add_right a b)
  have h2 := Sm.mono k (Nat.le_add_left b a)
  unfold Sm at *
  rw [Nat.pow_succ]
  omega
theorem Sm.neg {a : Nat} {x : Int} (h : Sm a x) : Sm a (-x) := by
  unfold Sm at *
  omega
theorem Sm.le {a : Nat} {x y : Int} (h : Sm a x) (l : y.natAbs ≤ x.natAbs) : Sm a y := Nat.lt_of_le_of_lt l h
theorem Sm.mulok {a b : Nat} {x y : Int} (h : Sm a x) (k : Sm b y) (ha : a ≤ 400000) (hb : b ≤ 400000) : CMulW x y := by
  refine wide_mul (a := a + 1) (b := b + 1) (Sm.mono h (Nat.le_succ a)) (Sm.mono k (Nat.le_succ b)) (Nat.succ_pos _) (Nat.succ_pos _) (by omega)
def CDivZ (_ j : Int) : Prop := j ≠ 0 ∧ Sm 8000 j
theorem op_fdivZ {X : Cx} : OpR X (binaryOp .FloorDiv) (rI CDivZ fun i j => .int (i.fdiv j)) := opI fun i j _ _ _ _ _ hc q => by
  have h : j.natAbs.log2 < 9000 := Nat.lt_of_lt_of_le (PySem.Flt.log2_lt_of (by decide) hc.2) (by decide)
  exact floordiv_int hc.1 q (.inl (PyProof.noPylong_of_log2 h))
/-! ### fractions -/
theorem gcd_turn {x y : Int} (hx : 0 ≤ x) (hy : 0 < y) : Int.gcd y (x % y) = Int.gcd x y := by
  obtain ⟨m, rfl⟩ := Int.eq_ofNat_of_zero_le hx
  obtain ⟨n, rfl⟩ := Int.eq_ofNat_of_zero_le (Int.le_of_lt hy)
  show Nat.gcd _ _ = Nat.gcd _ _
  rw [← Int.natCast_emod]
  simp only [Int.natAbs_natCast]
  rw [Nat.gcd_comm m n, Nat.gcd_rec n m, Nat.gcd_comm]
theorem gcd_abs (x y : Int) : Int.gcd (if x < 0 then -x else x) (if y < 0 then -y else y) = Int.gcd x y := by
  split <;> split <;> simp [Int.gcd]
theorem gcd_pos {t b : Int} (h : b ≠ 0) : (0 : Int) < (Int.gcd t b : Nat) := by
  have := Int.gcd_pos_of_ne_zero_right t h
  omega
/-- the divisor with the bottom's sign -/
def dvs (t b : Int) : Int := if b < 0 then -((Int.gcd t b : Nat) : Int) else ((Int.gcd t b : Nat) : Int)
theorem frac_num {t b : Int} (h : b ≠ 0) : t.fdiv (dvs t b) = (Rat.divInt t b).num := by
  have g0 := gcd_pos (t := t) h
  have gt : ((Int.gcd t b : Nat) : Int) ∣ t := Int.gcd_dvd_left t b
  rw [Rat.num_divInt, Int.gcd_comm b t]
  unfold dvs
  by_cases hb : b < 0
  · rw [if_pos hb, Int.sign_eq_neg_one_of_neg hb, Int.fdiv_neg (by omega), if_pos gt, Int.fdiv_eq_ediv_of_dvd gt]
    rw [Int.neg_mul, Int.one_mul, Int.neg_ediv_of_dvd gt]
  · rw [if_neg hb, Int.sign_eq_one_of_pos (by omega), Int.one_mul, Int.fdiv_eq_ediv_of_dvd gt]
theorem frac_den {t b : Int} (h : b ≠ 0) : b.fdiv (dvs t b) = ((Rat.divInt t b).den : Int) := by
  have g0 := gcd_pos (t := t) h
  have gb : ((Int.gcd t b : Nat) : Int) ∣ b := Int.gcd_dvd_right t b
  rw [Rat.den_divInt, if_neg h, Int.gcd_comm b t, Int.natCast_ediv]
  unfold dvs
  by_cases hb : b < 0
  · rw [if_pos hb, Int.fdiv_neg (by omega), if_pos gb, Int.fdiv_eq_ediv_of_dvd gb]
    rw [show ((b.natAbs : Nat) : Int) = -b by omega, Int.neg_ediv_of_dvd gb]
  · rw [if_neg hb, Int.fdiv_eq_ediv_of_dvd gb]
    rw [show ((b.natAbs : Nat) : Int) = b by omega]
theorem dvs_ne {t b : Int} (h : b ≠ 0) : dvs t b ≠ 0 := by
  have g0 := gcd_pos (t := t) h
  unfold dvs
  split <;> omega
theorem dvs_sm {t b : Int} {n : Nat} (h : b ≠ 0) (s : Sm n b) : Sm n (dvs t b) := by
  refine s.le ?_
  have hd : Int.gcd t b ∣ b.natAbs := Int.gcd_dvd_natAbs_right t b
  have hl := Nat.le_of_dvd (by omega) hd
  unfold dvs
  split <;> omega
theorem num_sm {t b : Int} {n : Nat} (h : b ≠ 0) (s : Sm n t) : Sm n (Rat.divInt t b).num := by
  refine s.le ?_
  have g0 : 0 < Int.gcd t b := Int.gcd_pos_of_ne_zero_right t h
  have gt : ((Int.gcd t b : Nat) : Int) ∣ t := Int.gcd_dvd_left t b
  rw [← frac_num h]
  have e : t.fdiv (dvs t b) * dvs t b = t := by
    rw [Int.mul_comm]
    refine Int.mul_fdiv_cancel_of_dvd ?_
    unfold dvs
    split
    · exact Int.neg_dvd.mpr gt
    · exact gt
  have e2 : t.natAbs = (t.fdiv (dvs t b)).natAbs * (dvs t b).natAbs := by
    rw [← Int.natAbs_mul, e]
  rw [e2]
  have : 0 < (dvs t b).natAbs := by
    have := dvs_ne (t := t) h
    omega
  exact Nat.le_mul_of_pos_right _ this
theorem den_sm {t b : Int} {n : Nat} (h : b ≠ 0) (s : Sm n b) : Sm n ((Rat.divInt t b).den : Int) := by
  refine s.le ?_
  rw [Rat.den_divInt, if_neg h]
  exact Nat.div_le_self _ _
/-- a fraction as it stands in a tuple -/
def pr (q : Rat) : List V := [.int q.num, .int (q.den : Int)]
theorem pr_ints (q : Rat) : pr q = [q.num, (q.den : Int)].map V.int := rfl
theorem den_pos (q : Rat) : (0 : Int) < (q.den : Int) := by
  have := q.den_nz
  omega
theorem num_gcd (q : Rat) : Int.gcd q.num (q.den : Int) = 1 := by
  have := q.reduced
  show Nat.gcd _ _ = 1
  simpa using this
theorem rat_inj {p q : Rat} : ([p.num, (p.den : Int)] = [q.num, (q.den : Int)]) ↔ p = q := by
  constructor
  · intro h
    simp only [List.cons.injEq, and_true] at h
    obtain ⟨h1, h2⟩ := h
    exact Rat.ext h1 (by omega)
  · rintro rfl
    rfl
theorem divInt_self (q : Rat) : Rat.divInt q.num (q.den : Int) = q := Rat.num_divInt_den q
theorem divInt_cross {t b : Int} (h : b ≠ 0) : (Rat.divInt t b).num * b = t * ((Rat.divInt t b).den : Int) := by
  have e : Rat.divInt (Rat.divInt t b).num ((Rat.divInt t b).den : Int) = Rat.divInt t b := divInt_self _
  exact (Rat.divInt_eq_divInt_iff (by have := den_pos (Rat.divInt t b); omega) h).mp e
theorem log_small {n : Int} (h0 : 0 ≤ n) (h1 : n < 1000) : n.natAbs.log2 < 1920 := by
  have h : n.natAbs < 2 ^ 10 := by omega
  exact Nat.lt_of_lt_of_le (PySem.Flt.log2_lt_of (by decide) h) (by decide)
/-! ### lists of whole numbers as data -/
theorem dpInts {K : PySem.W.Frag} {H : Hp} : ∀ ns : List Int, DpAll K H (ns.map V.int) (ns.map PyData.int)
  | [] => .nil
  | n :: ns => .cons (.int n) (dpInts ns)
theorem layInts : ∀ ns : List Int, PyData.canLayAll0 (ns.map PyData.int) = true
  | [] => rfl
  | n :: ns => by simp [PyData.canLayAll0, PyData.canLay0, layInts ns]
theorem depInts : ∀ ns : List Int, PyData.depthAll (ns.map PyData.int) = 0
  | [] => rfl
  | n :: ns => by simp [PyData.depthAll, PyData.depth, depInts ns]
theorem shapedL (ns : List Int) : SeqAt.shaped (.list (ns.map PyData.int)) = true := by
  show (PyData.canLayAll0 (ns.map PyData.int) && decide (PyData.depthAll (ns.map PyData.int) + 1 ≤ 64)) = true
  rw [layInts, depInts]; rfl
theorem shapedT (ns : List Int) : SeqAt.shaped (.tuple (ns.map PyData.int)) = true := by
  show (PyData.canLayAll0 (ns.map PyData.int) && decide (PyData.depthAll (ns.map PyData.int) + 1 ≤ 64)) = true
  rw [layInts, depInts]; rfl
theorem neqInts {K : PySem.W.Frag} {H : Hp} {Q : VK} {p q : Addr} {ns ms : List Int} (h1 : SqL K H p (ns.map V.int)) (h2 : SqL K H q (ms.map V.int)) (k : Q (.bl (!decide (ns = ms))) H) : rNeD K (.ref p) (.ref q) H Q := by
  refine ⟨_, _, .lst h1 (dpInts ns), .lst h2 (dpInts ms), shapedL ns, shapedL ms, ?_⟩
  have e : PyData.eqv (.list (ns.map PyData.int)) (.list (ms.map PyData.int)) = decide (ns = ms) := by
    rw [PyData.eqv]; exact PySem.W.ked_eqvAll ns ms
  rw [e]; exact k
theorem eqInts {K : PySem.W.Frag} {H : Hp} {Q : VK} {p q : Addr} {ns ms : List Int} (h1 : SqL K H p (ns.map V.int)) (h2 : SqL K H q (ms.map V.int)) (k : Q (.bl (decide (ns = ms))) H) : rEqD K (.ref p) (.ref q) H Q := by
  refine ⟨_, _, .lst h1 (dpInts ns), .lst h2 (dpInts ms), shapedL ns, shapedL ms, ?_⟩
  have e : PyData.eqv (.list (ns.map PyData.int)) (.list (ms.map PyData.int)) = decide (ns = ms) := by
    rw [PyData.eqv]; exact PySem.W.ked_eqvAll ns ms
  rw [e]; exact k
theorem neqIntsT {K : PySem.W.Frag} {H : Hp} {Q : VK} {p q : Addr} {ns ms : List Int} (h1 : SqT K H p (ns.map V.int)) (h2 : SqT K H q (ms.map V.int)) (k : Q (.bl (!decide (ns = ms))) H) : rNeD K (.ref p) (.ref q) H Q := by
  refine ⟨_, _, .tup h1 (dpInts ns), .tup h2 (dpInts ms), shapedT ns, shapedT ms, ?_⟩
  have e : PyData.eqv (.tuple (ns.map PyData.int)) (.tuple (ms.map PyData.int)) = decide (ns = ms) := by
    rw [PyData.eqv]; exact PySem.W.ked_eqvAll ns ms
  rw [e]; exact k
theorem eqIntsT {K : PySem.W.Frag} {H : Hp} {Q : VK} {p q : Addr} {ns ms : List Int} (h1 : SqT K H p (ns.map V.int)) (h2 : SqT K H q (ms.map V.int)) (k : Q (.bl (decide (ns = ms))) H) : rEqD K (.ref p) (.ref q) H Q := by
  refine ⟨_, _, .tup h1 (dpInts ns), .tup h2 (dpInts ms), shapedT ns, shapedT ms, ?_⟩
  have e : PyData.eqv (.tuple (ns.map PyData.int)) (.tuple (ms.map PyData.int)) = decide (ns = ms) := by
    rw [PyData.eqv]; exact PySem.W.ked_eqvAll ns ms
  rw [e]; exact k
/-! ### slices -/
theorem cutV_mem {xs : List V} {lo hi : Option Int} {v : V} (h : v ∈ cutV xs lo hi) : v ∈ xs := List.mem_of_mem_drop (List.mem_of_mem_take h)
theorem cutV_lo {xs : List V} {n : Int} (h0 : 0 ≤ n) (h1 : n ≤ xs.length) : cutV xs (some n) none = xs.drop n.toNat := by
  have e : HT.sIx xs.length 0 (some n) = n.toNat := by
    have q : n = ((n.toNat : Nat) : Int) := by omega
    rw [q, HT.sIx_nat]
    omega
  unfold cutV
  rw [e, HT.sIx_none]
  exact List.take_of_length_le (by rw [List.length_drop]; exact Nat.le_refl _)
theorem cutV_hi {xs : List V} {n : Int} (h0 : 0 ≤ n) (h1 : n ≤ xs.length) : cutV xs none (some n) = xs.take n.toNat := by
  have e : HT.sIx xs.length xs.length (some n) = n.toNat := by
    have q : n = ((n.toNat : Nat) : Int) := by omega
    rw [q, HT.sIx_nat]
    omega
  unfold cutV
  rw [e, HT.sIx_none]
  rfl
/-! ### what a thing is, as far as it matters: a whole number or of one of the other kinds -/
def others : List String := ["bool", "NoneType", "str", "tuple", "list", "dict"]
inductive Thing (K : PySem.W.Frag) (H : Hp) : V → Prop where
  | int (i : Int) : Thing K H (.int i)
  | odd {v : V} {t : String} (ty : TyX K H v (.type t)) (m : t ∈ others) (n : isI v = false) : Thing K H v
def spNumber (K : PySem.W.Frag) : Sp := fun vs H Q _ => ∃ v, vs = [v] ∧ Thing K H v ∧ Q (.bl (isI v)) H
/-! ### what a thing is stays so -/
theorem TyX.keep {K : PySem.W.Frag} {H H' : Hp} {v : V} {t : Value} (f : ∀ b o, v = .ref b → H b = some o → H' b = some o) (h : TyX K H v t) : TyX K H' v t := by
  cases h with
  | base b =>
    refine .base ?_
    cases b with
    | non => exact .non
    | bl x => exact .bl x
    | int i => exact .int i
    | str x => exact .str x
    | flt x => exact .flt x
    | lst e => exact .lst (f _ _ rfl e)
    | frz e => exact .frz (f _ _ rfl e)
    | tup e => exact .tup (f _ _ rfl e)
    | dK e => exact .dK (f _ _ rfl e)
    | dT e => exact .dT (f _ _ rfl e)
    | ins e a b c d g => exact .ins (f _ _ rfl e) a b c d g
  | byt b => exact .byt b
  | set e => exact .set (f _ _ rfl e)
  | kList e c => exact .kList e c
  | kTuple e c => exact .kTuple e c
  | kDict e c => exact .kDict e c
  | fTuple e => exact .fTuple (f _ _ rfl e)
  | fDict e => exact .fDict (f _ _ rfl e)
theorem Thing.keep {K : PySem.W.Frag} {H H' : Hp} {v : V} (f : ∀ b o, v = .ref b → H b = some o → H' b = some o) (h : Thing K H v) : Thing K H' v := by
  cases h with
  | int i => exact .int i
  | odd ty m n => exact .odd (TyX.keep f ty) m n
/-! ### the drawn figures -/
def IsSt (xs : List V) : Prop := (∃ x, xs = [.int x]) ∨ ∃ x y z, xs = [.int x, .int y, .int z]
def spDigit : Sp := fun vs H Q _ => ∃ (p : Addr) (xs : List V) (b : Int), vs = [.ref p, .int b] ∧ H p = some (.lst xs) ∧ IsSt xs ∧ 0 < b ∧ b < 1073741824 ∧
  ∀ H' d xs', Frm p H H' → H' p = some (.lst xs') → IsSt xs' → 0 ≤ d → d < b → Q (.int d) H'
def spGcd : Sp := fun vs H Q _ => ∃ a b : Int, vs = [.int a, .int b] ∧ 0 ≤ a ∧ 0 ≤ b ∧ Q (.int ((Int.gcd a b : Nat) : Int)) H
def spFraction (K : PySem.W.Frag) (C : Addr) : Sp := fun vs H Q E => ∃ v1 v2, vs = [v1, v2] ∧ Thing K H v1 ∧ Thing K H v2 ∧
  ((∃ t b : Int, v1 = .int t ∧ v2 = .int b ∧ b ≠ 0 ∧ Sm 8000 b ∧ ∀ p, H p = none → Q (.ref p) (upd H p (.tup (pr (Rat.divInt t b))))) ∨
   ((isI v1 = false ∨ isI v2 = false ∨ v2 = .int 0) ∧ E (.ref C) none H))
local macro_rules | `(tactic| walk_at "sm") => `(tactic| first
  | assumption
  | exact (show Sm 64 _ by unfold Sm; decide)
  | (refine' Sm.mul ?m1 ?m2; (case m1 => walk_at "sm"); (case m2 => walk_at "sm"))
  | (refine' Sm.add ?m1 ?m2; (case m1 => walk_at "sm"); (case m2 => walk_at "sm"))
  | (refine' Sm.sub ?m1 ?m2; (case m1 => walk_at "sm"); (case m2 => walk_at "sm"))
  | (refine' Sm.neg ?m1; (case m1 => walk_at "sm"))
  | fail)
local macro_rules | `(tactic| walk_at "ne") => `(tactic| first
  | assumption
  | exact Ne.symm (by assumption)
  | (refine' new_ne ?n1 ?n2; (case n1 => assumption); (case n2 => walk_at "hp"))
  | (refine' Ne.symm (new_ne ?n1 ?n2); (case n1 => assumption); (case n2 => walk_at "hp"))
  | fail)
local macro_rules | `(tactic| walk_at "hp") => `(tactic| first
  | assumption
  | exact upd_same
  | (refine' upd_old ?na ?ho; (case na => assumption); (case ho => walk_at "hp"))
  | (refine' upd_old2 ?na ?ho; (case na => assumption); (case ho => walk_at "hp"))
  | (refine' upd_oth ?na ?ho; (case na => walk_at "ne"); (case ho => walk_at "hp"))
  | (refine' Same.get ?na ?ho; (case na => assumption); (case ho => walk_at "hp"))
  | (refine' Frm.get ?na ?nb ?ho; (case na => assumption); (case nb => walk_at "ne"); (case ho => walk_at "hp"))
  | fail)
local macro_rules | `(tactic| walk_at "fr") => `(tactic| first
  | assumption
  | exact Frm.refl
  | exact Same.refl _
  | (refine' Frm.upd2 ?f; (case f => walk_at "fr"))
  | (refine' Frm.new ?f ?n; (case n => assumption); (case f => walk_at "fr"))
  | (refine' Frm.new2 ?f ?n; (case n => assumption); (case f => walk_at "fr"))
  | (refine' Frm.own ?f ?n; (case n => assumption); (case f => walk_at "fr"))
  | (refine' Frm.trans ?f ?g; (case g => first | assumption | exact Same.frm (by assumption)); (case f => walk_at "fr"))
  | (refine' Same.new ?f ?n; (case n => assumption); (case f => walk_at "fr"))
  | (refine' Same.new2 ?f ?n; (case n => assumption); (case f => walk_at "fr"))
  | (refine' Same.own ?f ?n; (case n => assumption); (case f => walk_at "fr"))
  | (refine' Same.trans ?f ?g; (case g => assumption); (case f => walk_at "fr"))
  | (refine' Same.byFrm ?f ?g ?n; (case g => assumption); (case n => assumption); (case f => walk_at "fr"))
  | fail)
/-- one step of a reading, where its form alone tells it -/
local macro_rules | `(tactic| walk_at "g") => `(tactic| first
  | refine ⟨_, rfl, ?_⟩
  | refine ⟨_, _, rfl, rfl, ?_⟩
  | refine ⟨rfl, ?_⟩
  | refine ⟨sz rfl, fun _ _ => ?_⟩
  | refine ⟨.inl ⟨rfl, _, SqL.of (by walk_at "hp")⟩, ?_⟩
  | refine ⟨_, _, rfl, .inl (SqL.of (by walk_at "hp")), ?_⟩
  | refine ⟨_, _, rfl, .inr (SqT.of (by walk_at "hp")), ?_⟩
  | refine ⟨_, _, rfl, SqL.of (by walk_at "hp"), fun _ _ => ?_⟩
  | refine ⟨_, _, _, _, rfl, rfl, SqL.of (by walk_at "hp"), rfl, ?_⟩
  | refine ⟨_, _, _, _, rfl, rfl, SqT.of (by walk_at "hp"), rfl, ?_⟩
  | refine ⟨(show (0 : Int) < _ by first | decide | assumption), ?_⟩
  | refine ⟨⟨(show (0 : Int) < _ by first | decide | assumption), by first | decide | assumption⟩, ?_⟩
  | refine ⟨⟨(show (0 : Int) ≤ _ by decide), by decide, by decide⟩, ?_⟩
  | refine ⟨_, _, _, _, rfl, rfl, by walk_at "hp", by walk_at "hp", sz rfl, ?_⟩
  | refine ⟨_, _, _, _, rfl, rfl, by walk_at "hp", rfl, ?_⟩
  | refine ⟨(show CMul _ _ by first | exact .inl ⟨by decide, by decide⟩ | exact .inr ⟨by decide, by decide⟩ | exact .inl ⟨by omega, by omega⟩ | exact .inr ⟨by omega, by omega⟩), ?_⟩
  | refine ⟨(show CMulW _ _ from Sm.mulok (by walk_at "sm") (by walk_at "sm") (by decide) (by decide)), ?_⟩
  | refine ⟨(show CDivZ _ _ from ⟨by first | assumption | omega, Sm.mono (by walk_at "sm") (by decide)⟩), ?_⟩
  | fail)
/-- a drawn figure: a call of digit -/
local macro_rules | `(tactic| walk_at "dg") => `(tactic| (refine ⟨_, _, _, rfl, by walk_at "hp", by assumption, by first | decide | omega, by first | decide | omega, fun _ _ _ _ _ _ _ _ => ?_⟩))
/-- a list's item at a drawn place -/
local macro_rules | `(tactic| walk_at "ixI") => `(tactic| (refine' ixI (SqL.of ?h) ?h0 ?h1 ?al (fun _ _ => ?k); (case h => walk_at "hp"); (case al => rfl); (case h0 => first | assumption | omega); (case h1 => first | assumption | (simp only [List.length]; omega))))
section
variable {P : Program} {w : World} {K : PySem.W.Frag} {mg : Str → Option Value} {base : Heap}
theorem ok_l_digit (T : Txt K mg) : FnOk P w K mg base CX0 1 T.a_l_digit T.d_l_digit ["_law_state", "_law_base"] spDigit := by
  refine T.F_l_digit.ok sc_l_digit (fun vs H Q E h => ?_) (fun cdv A outer s H vs Q E hr h => ?_)
  · obtain ⟨p, xs, b, rfl, _⟩ := h
    rfl
  · obtain ⟨p, xs, b, rfl, hp, hx, b0, b1, q⟩ := h
    refine ⟨_, (pss_cons (ps_if (pt_cmpR op_eq (pe_callB call_len_seq (by rfl) T.m_len (by decide +kernel) (pa_cons (pv 0) pa_nil)) pe_int (nomark _)) (pss_one (ps_expr (pe_bm PySem.F.plainAttrs_list PySem.F.slot_list_extend PySem.F.type_list_extend mt_extend (pv 0) (pa_cons (pe_lst (pa_cons (pe_op op_mod (pe_ix ix_list (pv 0) pe_int (fun _ _ => rfl)) pe_int) (pa_cons pe_int pa_nil))) pa_nil)))) pss_nil)
      (pss_cons (ps_if (pt_cmpR op_ge (pe_ix ix_list (pv 0) pe_int (fun _ _ => rfl)) (pv 1) (nomark _)) (pss_cons (ps_set (i := 2) sc_l_digit.nd rfl (Or.inl rfl) (pe_op op_mod (pe_ix ix_list (pv 0) pe_int (fun _ _ => rfl)) (pv 1)))
      (pss_cons (ps_asg (pe_op op_fdiv (pe_ix ix_list (pv 0) pe_int (fun _ _ => rfl)) (pv 1)) (pg_sub (pv 0) pe_int set_list))
      (pss_one (ps_ret (pv 2))))) pss_nil)
      (pss_cons (ps_asg (pe_op op_add (pe_ix ix_list (pv 0) pe_int (fun _ _ => rfl)) pe_int) (pg_sub (pv 0) pe_int set_list))
      (pss_cons (ps_set (i := 3) sc_l_digit.nd rfl (Or.inl rfl) (pe_op op_mod (pe_op op_mul (pe_op op_add (pe_op op_add (pe_ix ix_list (pv 0) pe_int (fun _ _ => rfl)) (pe_op op_mul pe_int (pe_ix ix_list (pv 0) pe_int (fun _ _ => rfl)))) pe_int) pe_int) pe_int))
      (pss_cons (ps_set (i := 3) sc_l_digit.nd rfl (Or.inl rfl) (pe_op op_mod (pe_op op_mul (pv 3) (pe_op op_add (pe_op op_fdiv (pv 3) pe_int) pe_int)) pe_int))
      (pss_one (ps_ret (pe_op op_mod (pe_op op_mod (pe_op op_mul (pv 3) (pe_op op_add (pe_op op_fdiv (pv 3) pe_int) pe_int)) pe_int) (pv 1))))))))), ?_⟩
    rcases hx with ⟨x, rfl⟩ | ⟨x, y, z, rfl⟩
    all_goals
      repeat' walk_at "g"
      refine ite2 (fun c => ?_) (fun c => ?_)
      · repeat' walk_at "g"
        exact q _ _ _ (by walk_at "fr") upd_same (.inr ⟨_, _, _, rfl⟩) (Int.emod_nonneg _ (by omega)) (Int.emod_lt_of_pos _ b0)
      · repeat' walk_at "g"
        exact q _ _ _ (by walk_at "fr") upd_same (.inr ⟨_, _, _, rfl⟩) (Int.emod_nonneg _ (by omega)) (Int.emod_lt_of_pos _ b0)
theorem ok_is_number (T : Txt K mg) : FnOk P w K mg base CX0 1 T.a_is_number T.d_is_number ["thing"] (spNumber K) := by
  refine T.F_is_number.ok sc_is_number (fun vs H Q E h => ?_) (fun cdv A outer s H vs Q E hr h => ?_)
  · obtain ⟨v, rfl, _⟩ := h
    rfl
  · obtain ⟨v, rfl, hv, q⟩ := h
    refine ⟨_, (pss_one (ps_ret (pe_and (pe_callB call_isi (by rfl) T.m_isinstance (by decide +kernel) (pa_cons (pv 0) (pa_cons (pe_bltn (v := .ty "int") (by rfl) T.m_int (by decide +kernel) rfl) pa_nil))) (pe_one (pe_not (pe_callB call_isi (by rfl) T.m_isinstance (by decide +kernel) (pa_cons (pv 0) (pa_cons (pe_bltn (v := .ty "bool") (by rfl) T.m_bool (by decide +kernel) rfl) pa_nil)))))))), ?_⟩
    repeat' walk_at "g"
    cases hv with
    | int i =>
      refine ⟨_, _, _, _, true, rfl, .ty _, .base (.int i), kit_ty (by decide +kernel), _, rfl, ifT rfl ?_⟩
      repeat' walk_at "g"
      exact ⟨_, _, _, _, false, rfl, .ty _, .base (.int i), kit_ty (by decide +kernel), _, rfl, q⟩
    | @odd _ t ty m n =>
      rw [n] at q
      simp only [others, List.mem_cons, List.not_mem_nil, or_false] at m
      rcases m with rfl | rfl | rfl | rfl | rfl | rfl
      · refine ⟨_, _, _, _, true, rfl, .ty _, ty, kit_ty (by decide +kernel), _, rfl, ifT rfl ?_⟩
        repeat' walk_at "g"
        exact ⟨_, _, _, _, true, rfl, .ty _, ty, kit_ty (by decide +kernel), _, rfl, q⟩
      all_goals exact ⟨_, _, _, _, false, rfl, .ty _, ty, kit_ty (by decide +kernel), _, rfl, ifF rfl q⟩
theorem ok_common_divisor (T : Txt K mg) : FnOk P w K mg base CX0 1 T.a_common_divisor T.d_common_divisor ["one", "other"] spGcd := by
  refine T.F_common_divisor.ok sc_common_divisor (fun vs H Q E h => ?_) (fun cdv A outer s H vs Q E hr h => ?_)
  · obtain ⟨a, b, rfl, _⟩ := h
    rfl
  · obtain ⟨a, b, rfl, a0, b0, q⟩ := h
    refine ⟨_, (pss_cons (ps_while PassesOwn.never (pt_cmpR op_gt (pv 1) pe_int (nomark _)) (pss_one (ps_par (i := 0) (j := 1) (by rfl) sc_common_divisor.nd rfl rfl (by decide) rfl rfl (pa_cons (pv 1) (pa_cons (pe_op op_mod (pv 0) (pv 1)) pa_nil)) (by rfl))))
      (pss_one (ps_ret (pv 0)))), ?_⟩
    refine while_by (fun σ H' => ∃ x y : Int, σ = [some (.int x), some (.int y)] ∧ 0 ≤ x ∧ 0 ≤ y ∧ Int.gcd x y = Int.gcd a b ∧ H' = H) (fun σ _ => match σ with | [_, some (.int y)] => y.toNat | _ => 0) ⟨a, b, rfl, a0, b0, rfl, rfl⟩ ?_ ?_
    · rintro σ H' ⟨x, y, rfl, x0, y0, e, rfl⟩
      repeat' walk_at "g"
      refine ifC (fun c => ?_) (fun c => ?_)
      · have c := of_decide_eq_true c
        refine ⟨_, rfl, _, rfl, _, rfl, _, _, rfl, rfl, c, _, _, rfl, ⟨_, _, rfl, y0, Int.emod_nonneg _ (by omega), (gcd_turn x0 c).trans e, rfl⟩, ?_⟩
        show (x % y).toNat < y.toNat
        have := Int.emod_lt_of_pos x c
        have := Int.emod_nonneg x (show y ≠ 0 by omega)
        omega
      · have c := of_decide_eq_false c
        have y1 : y = 0 := by omega
        subst y1
        rw [← e] at q
        refine ⟨_, rfl, ?_⟩
        have e2 : ((Int.gcd x 0 : Nat) : Int) = x := by
          rw [Int.gcd_zero_right]
          omega
        rw [e2] at q
        exact q
    · exact fun σ H Q Q' k ⟨v, e, i, j, e1, e2, b, eb, q⟩ => ⟨v, e, i, j, e1, e2, b, eb, k _ _ q⟩
end

section
variable {P : Program} {w : World} {K : PySem.W.Frag} {mg : Str → Option Value} {base : Heap}
theorem ok_fraction (T : Txt K mg) : FnOk P w K mg base (L2.CX P w) 2 T.a_fraction T.d_fraction ["top", "bottom"] (spFraction K T.c_NoFraction) := by
  refine T.F_fraction.ok sc_fraction (fun vs H Q E h => ?_) (fun cdv A outer s H vs Q E hr h => ?_)
  · obtain ⟨a, b, rfl, _⟩ := h
    rfl
  · obtain ⟨v1, v2, rfl, t1, t2, h⟩ := h
    refine ⟨_, (pss_cons (ps_if (PW.pt (pw_or (pt_not (pt_val (pe_call (ok_is_number T) (hr.mono (by decide)) (by rfl) T.g_is_number T.F_is_number.kp T.b_is_number .nil pass0 (pa_cons (pv 0) pa_nil)))) (pw_or1 (pt_not (pt_val (pe_call (ok_is_number T) (hr.mono (by decide)) (by rfl) T.g_is_number T.F_is_number.kp T.b_is_number .nil pass0 (pa_cons (pv 1) pa_nil))))))) (pss_one (ps_raise rfl (takes_of rfl rfl rfl rfl) (pmk_own PySem.F.excBase_ValueError T.x_NoFraction T.g_NoFraction T.k_NoFraction (raises_own T.bb_NoFraction T.t_NoFraction) rfl))) pss_nil)
      (pss_cons (ps_if (pt_cmpR op_eq (pv 1) pe_int (nomark _)) (pss_one (ps_raise rfl (takes_of rfl rfl rfl rfl) (pmk_own PySem.F.excBase_ValueError T.x_NoFraction T.g_NoFraction T.k_NoFraction (raises_own T.bb_NoFraction T.t_NoFraction) rfl))) pss_nil)
      (pss_cons (ps_set (i := 2) sc_fraction.nd rfl (Or.inl rfl) (pe_call (ok_common_divisor T) (hr.mono (by decide)) (by rfl) T.g_common_divisor T.F_common_divisor.kp T.b_common_divisor .nil pass0 (pa_cons (pe_callB call_abs (by rfl) T.m_abs (by decide +kernel) (pa_cons (pv 0) pa_nil)) (pa_cons (pe_callB call_abs (by rfl) T.m_abs (by decide +kernel) (pa_cons (pv 1) pa_nil)) pa_nil))))
      (pss_cons (ps_if (pt_cmpR op_lt (pv 1) pe_int (nomark _)) (pss_one (ps_set (i := 2) sc_fraction.nd rfl (Or.inl rfl) (pe_un un_neg (pv 2)))) pss_nil)
      (pss_one (ps_ret (pe_tup (pa_cons (pe_op op_fdivZ (pv 0) (pv 2)) (pa_cons (pe_op op_fdivZ (pv 1) (pv 2)) pa_nil))))))))), ?_⟩
    refine ⟨_, rfl, _, rfl, t1, _, rfl, ?_⟩
    rcases h with ⟨t, b, rfl, rfl, hb, sb, q⟩ | ⟨h, q⟩
    · repeat' walk_at "g"
      refine ⟨t2, ?_⟩
      repeat' walk_at "g"
      refine ifF (decide_eq_false fun z => hb (V.int.inj z)) ?_
      repeat' walk_at "g"
      refine ⟨_, _, rfl, by split <;> omega, by split <;> omega, ?_⟩
      rw [gcd_abs]
      have hq : ∀ p, H p = none → Q (.ref p) (upd H p (.tup [.int (t.fdiv (dvs t b)), .int (b.fdiv (dvs t b))])) := fun p hp => by
        rw [frac_num hb, frac_den hb]
        exact q p hp
      have hd : CDivZ t (dvs t b) := ⟨dvs_ne hb, dvs_sm hb sb⟩
      have hd2 : CDivZ b (dvs t b) := ⟨dvs_ne hb, dvs_sm hb sb⟩
      unfold dvs at hq hd hd2
      repeat' walk_at "g"
      refine ifC (fun c => ?_) (fun c => ?_)
      · have c := of_decide_eq_true c
        rw [if_pos c] at hq hd hd2
        repeat' walk_at "g"
        refine ⟨hd, ?_⟩
        repeat' walk_at "g"
        refine ⟨hd2, ?_⟩
        exact ⟨sz rfl, hq⟩
      · have c := of_decide_eq_false c
        rw [if_neg c] at hq hd hd2
        repeat' walk_at "g"
        refine ⟨hd, ?_⟩
        repeat' walk_at "g"
        refine ⟨hd2, ?_⟩
        exact ⟨sz rfl, hq⟩
    · by_cases h1 : isI v1 = true
      · refine ifF (by rw [h1]; rfl) ?_
        refine ⟨_, rfl, _, rfl, t2, _, rfl, ?_⟩
        by_cases h2 : isI v2 = true
        · refine ifF (by rw [h2]; rfl) ?_
          rcases h with h | h | rfl
          · rw [h1] at h; cases h
          · rw [h2] at h; cases h
          · repeat' walk_at "g"
            exact q
        · have h2 : isI v2 = false := by simpa using h2
          refine ifT (by rw [h2]; rfl) ?_
          exact q
      · have h1 : isI v1 = false := by simpa using h1
        refine ifT (by rw [h1]; rfl) ?_
        exact q
end

def isFr : List V → Bool
  | [.int a, .int b] => decide (1 ≤ b) && decide (Int.gcd a b = 1)
  | _ => false
def isMo : List V → Bool
  | [.int a, .int b] => (decide (1 ≤ b) && decide (Int.gcd a b = 1)) && decide (0 ≤ a)
  | _ => false
theorem isFr1 {x : V} : isFr [x] = false := by cases x <;> rfl
theorem isFr3 {x y z : V} {r : List V} : isFr (x :: y :: z :: r) = false := by cases x <;> first | rfl | (cases y <;> rfl)
theorem isMo1 {x : V} : isMo [x] = false := by cases x <;> rfl
theorem isMo3 {x y z : V} {r : List V} : isMo (x :: y :: z :: r) = false := by cases x <;> first | rfl | (cases y <;> rfl)
def notuple : List String := ["bool", "NoneType", "str", "list", "dict", "int"]
def spIs (K : PySem.W.Frag) (f : List V → Bool) : Sp := fun vs H Q _ => ∃ v, vs = [v] ∧
  ((∃ p xs, v = .ref p ∧ H p = some (.tup xs) ∧ (∀ x ∈ xs, Thing K H x) ∧ Q (.bl (f xs)) H) ∨ (∃ t, TyX K H v (.type t) ∧ t ∈ notuple ∧ Q (.bl false) H))
def spLess : Sp := fun vs H Q _ => ∃ (p r : Addr) (a b : Rat), vs = [.ref p, .ref r] ∧ H p = some (.tup (pr a)) ∧ H r = some (.tup (pr b)) ∧ Sm 8000 a.num ∧ Sm 8000 (a.den : Int) ∧ Sm 8000 b.num ∧ Sm 8000 (b.den : Int) ∧ Q (.bl (decide (a.num * (b.den : Int) < b.num * (a.den : Int)))) H
def spFloor : Sp := fun vs H Q _ => ∃ (p : Addr) (a : Rat), vs = [.ref p] ∧ H p = some (.tup (pr a)) ∧ Sm 8000 (a.den : Int) ∧ Q (.int (a.num.fdiv (a.den : Int))) H
def spGcd2 : Sp := fun vs H Q _ => ∃ a b : Int, vs = [.int a, .int b] ∧ Q (.int ((Int.gcd a b : Nat) : Int)) H
def spLowest : Sp := fun vs H Q _ => ∃ (p : Addr) (a : Rat), vs = [.ref p] ∧ H p = some (.tup (pr a)) ∧ Q (.bl true) H
def spCell (K : PySem.W.Frag) : Sp := fun vs H Q _ => ∃ (a : Addr) (ns : List Int) (k : Int), vs = [.ref a, .int k] ∧ SqL K H a (ns.map V.int) ∧ 0 ≤ k ∧ ∀ n, (n ∈ ns ∨ n = 0) → Q (.int n) H
def spTruth : Sp := fun vs H Q _ => ∃ f d : Bool, vs = [.bl f, .bl d] ∧ ∀ H', Same H H' → Q (.bl (f == d)) H'
def spGreat : Sp := fun vs H Q _ => ∃ (p : Addr) (xs : List V), vs = [.ref p] ∧ H p = some (.lst xs) ∧ IsSt xs ∧
  ∀ H' n xs', Frm p H H' → H' p = some (.lst xs') → IsSt xs' → Sm 160 n → Q (.int n) H'
def spNum : Sp := fun vs H Q _ => ∃ (p : Addr) (xs : List V), vs = [.ref p] ∧ H p = some (.lst xs) ∧ IsSt xs ∧
  ∀ H' n xs', Frm p H H' → H' p = some (.lst xs') → IsSt xs' → Sm 200 n → Q (.int n) H'
section
variable {P : Program} {w : World} {K : PySem.W.Frag} {mg : Str → Option Value} {base : Heap}
theorem ok_is_fraction (T : Txt K mg) : FnOk P w K mg base CX0 2 T.a_is_fraction T.d_is_fraction ["thing"] (spIs K isFr) := by
  refine T.F_is_fraction.ok sc_is_fraction (fun vs H Q E h => ?_) (fun cdv A outer s H vs Q E hr h => ?_)
  · obtain ⟨v, rfl, _⟩ := h
    rfl
  · obtain ⟨v, rfl, h⟩ := h
    refine ⟨_, (pss_cons (ps_if (PW.pt (pw_or (pt_not (pt_val (pe_callB call_isi (by rfl) T.m_isinstance (by decide +kernel) (pa_cons (pv 0) (pa_cons (pe_bltn (v := .ty "tuple") (by rfl) T.m_tuple (by decide +kernel) rfl) pa_nil))))) (pw_or1 (pt_cmpR op_ne (pe_callB call_len_seq (by rfl) T.m_len (by decide +kernel) (pa_cons (pv 0) pa_nil)) pe_int (nomark _))))) (pss_one (ps_ret pe_bl)) pss_nil)
      (pss_cons (ps_asg (pv 0) (pg_tup rfl (pgs_cons (pg_name (i := 1) sc_is_fraction.nd rfl (Or.inl rfl)) (pgs_cons (pg_name (i := 2) sc_is_fraction.nd rfl (Or.inl rfl)) pgs_nil))))
      (pss_cons (ps_if (PW.pt (pw_or (pt_not (pt_val (pe_call (ok_is_number T) (hr.mono (by decide)) (by rfl) T.g_is_number T.F_is_number.kp T.b_is_number .nil pass0 (pa_cons (pv 1) pa_nil)))) (pw_or (pt_not (pt_val (pe_call (ok_is_number T) (hr.mono (by decide)) (by rfl) T.g_is_number T.F_is_number.kp T.b_is_number .nil pass0 (pa_cons (pv 2) pa_nil)))) (pw_or1 (pt_cmpR op_lt (pv 2) pe_int (nomark _)))))) (pss_one (ps_ret pe_bl)) pss_nil)
      (pss_one (ps_ret (pe_cmpR op_eq (pe_call (ok_common_divisor T) (hr.mono (by decide)) (by rfl) T.g_common_divisor T.F_common_divisor.kp T.b_common_divisor .nil pass0 (pa_cons (pe_callB call_abs (by rfl) T.m_abs (by decide +kernel) (pa_cons (pv 1) pa_nil)) (pa_cons (pv 2) pa_nil))) pe_int (nomark _))))))), ?_⟩
    repeat' walk_at "g"
    rcases h with ⟨p, xs, rfl, hp, ht, q⟩ | ⟨t, ty, m, q⟩
    · refine ⟨_, _, _, _, true, rfl, .ty _, .base (.tup hp), kit_ty (by decide +kernel), ?_⟩
      repeat' walk_at "g"
      rcases xs with _ | ⟨x, _ | ⟨y, _ | ⟨z, r⟩⟩⟩
      · repeat' walk_at "g"
        exact q
      · rw [isFr1] at q
        exact q
      · repeat' walk_at "g"
        refine ⟨_, _, rfl, SqT.of hp, rfl, _, _, rfl, _, _, rfl, rfl, ?_⟩
        have tx := ht x (by simp)
        have ty := ht y (by simp)
        refine ⟨_, rfl, _, rfl, tx, _, rfl, ?_⟩
        cases tx with
        | odd _ _ n =>
          refine ifT (by rw [n]; rfl) ?_
          have e : isFr [x, y] = false := by cases x <;> first | rfl | cases n
          rw [e] at q
          exact q
        | int a =>
          refine ifF rfl ?_
          refine ⟨_, rfl, _, rfl, ty, _, rfl, ?_⟩
          cases ty with
          | odd _ _ n =>
            refine ifT (by rw [n]; rfl) ?_
            have e : isFr [.int a, y] = false := by cases y <;> first | rfl | cases n
            rw [e] at q
            exact q
          | int b =>
            refine ifF rfl ?_
            have q2 : Q (.bl (decide (1 ≤ b) && decide (Int.gcd a b = 1))) H := q
            repeat' walk_at "g"
            refine ifC (fun c => ?_) (fun c => ?_)
            · have c := of_decide_eq_true c
              rw [decide_eq_false (by omega : ¬ 1 ≤ b), Bool.false_and] at q2
              exact q2
            · have c := of_decide_eq_false c
              rw [decide_eq_true (by omega : 1 ≤ b), Bool.true_and] at q2
              repeat' walk_at "g"
              refine ⟨_, _, rfl, by split <;> omega, by omega, ?_⟩
              have eg : Int.gcd (if a < 0 then -a else a) b = Int.gcd a b := by
                have := gcd_abs a b
                rw [if_neg (by omega : ¬ b < 0)] at this
                exact this
              rw [eg]
              refine ⟨rfl, ?_⟩
              have e2 : decide (V.int ((Int.gcd a b : Nat) : Int) = V.int 1) = decide (Int.gcd a b = 1) := by
                apply decide_eq_decide.mpr
                constructor
                · intro h; have := V.int.inj h; omega
                · intro h; rw [h]; rfl
              rw [e2]
              exact q2
      · repeat' walk_at "g"
        refine ifT ?_ ?_
        · show (!decide (V.int (((x :: y :: z :: r).length : Nat) : Int) = V.int 2)) = true
          rw [decide_eq_false]
          · rfl
          · intro h
            have := V.int.inj h
            simp only [List.length_cons] at this
            omega
        · rw [isFr3] at q
          exact q
    · simp only [notuple, List.mem_cons, List.not_mem_nil, or_false] at m
      rcases m with rfl | rfl | rfl | rfl | rfl | rfl
      all_goals
        refine ⟨_, _, _, _, false, rfl, .ty _, ty, kit_ty (by decide +kernel), ?_⟩
        repeat' walk_at "g"
        exact q
theorem ok_is_moment (T : Txt K mg) : FnOk P w K mg base CX0 3 T.a_is_moment T.d_is_moment ["thing"] (spIs K isMo) := by
  refine T.F_is_moment.ok sc_is_moment (fun vs H Q E h => ?_) (fun cdv A outer s H vs Q E hr h => ?_)
  · obtain ⟨v, rfl, _⟩ := h
    rfl
  · obtain ⟨v, rfl, h⟩ := h
    refine ⟨_, (pss_one (ps_ret (pe_and (pe_call (ok_is_fraction T) (hr.mono (by decide)) (by rfl) T.g_is_fraction T.F_is_fraction.kp T.b_is_fraction .nil pass0 (pa_cons (pv 0) pa_nil)) (pe_one (pe_cmpR op_ge (pe_ix ix_tup (pv 0) pe_int (fun _ _ => rfl)) pe_int (nomark _)))))), ?_⟩
    repeat' walk_at "g"
    rcases h with ⟨p, xs, rfl, hp, ht, q⟩ | ⟨t, ty, m, q⟩
    · refine .inl ⟨_, _, rfl, hp, ht, _, rfl, ?_⟩
      refine ifC (fun c => ?_) (fun c => ?_)
      · rcases xs with _ | ⟨x, _ | ⟨y, _ | ⟨z, r⟩⟩⟩
        · cases c
        · rw [isFr1] at c; cases c
        · cases x <;> first | (cases c; done) | skip
          cases y <;> first | (cases c; done) | skip
          rename_i a b
          have c2 : (decide (1 ≤ b) && decide (Int.gcd a b = 1)) = true := c
          have q2 : Q (.bl ((decide (1 ≤ b) && decide (Int.gcd a b = 1)) && decide (0 ≤ a))) H := q
          rw [c2, Bool.true_and] at q2
          repeat' walk_at "g"
          exact q2
        · rw [isFr3] at c; cases c
      · have e : isMo xs = false := by
          rcases xs with _ | ⟨x, _ | ⟨y, _ | ⟨z, r⟩⟩⟩
          · rfl
          · exact isMo1
          · cases x <;> first | rfl | skip
            cases y <;> first | rfl | skip
            rename_i a b
            have c2 : (decide (1 ≤ b) && decide (Int.gcd a b = 1)) = false := c
            show ((decide (1 ≤ b) && decide (Int.gcd a b = 1)) && decide (0 ≤ a)) = false
            rw [c2, Bool.false_and]
          · exact isMo3
        rw [e] at q
        exact q
    · exact .inr ⟨_, ty, m, _, rfl, ifF rfl q⟩
theorem ok_less (T : Txt K mg) : FnOk P w K mg base CX0 1 T.a_less T.d_less ["one", "other"] spLess := by
  refine T.F_less.ok sc_less (fun vs H Q E h => ?_) (fun cdv A outer s H vs Q E hr h => ?_)
  · obtain ⟨p, r, a, b, rfl, _⟩ := h
    rfl
  · obtain ⟨p, r, a, b, rfl, hp, hq, s1, s2, s3, s4, q⟩ := h
    refine ⟨_, (pss_one (ps_ret (pe_cmpR op_lt (pe_op op_mulW (pe_ix ix_tup (pv 0) pe_int (fun _ _ => rfl)) (pe_ix ix_tup (pv 1) pe_int (fun _ _ => rfl))) (pe_op op_mulW (pe_ix ix_tup (pv 1) pe_int (fun _ _ => rfl)) (pe_ix ix_tup (pv 0) pe_int (fun _ _ => rfl))) (nomark _)))), ?_⟩
    repeat' walk_at "g"
    exact q
theorem ok_floor (T : Txt K mg) : FnOk P w K mg base CX0 1 T.a_floor T.d_floor ["one"] spFloor := by
  refine T.F_floor.ok sc_floor (fun vs H Q E h => ?_) (fun cdv A outer s H vs Q E hr h => ?_)
  · obtain ⟨p, a, rfl, _⟩ := h
    rfl
  · obtain ⟨p, a, rfl, hp, s1, q⟩ := h
    refine ⟨_, (pss_one (ps_ret (pe_op op_fdivZ (pe_ix ix_tup (pv 0) pe_int (fun _ _ => rfl)) (pe_ix ix_tup (pv 0) pe_int (fun _ _ => rfl))))), ?_⟩
    have dn := den_pos a
    repeat' walk_at "g"
    exact q
theorem ok_l_cell_at (T : Txt K mg) : FnOk P w K mg base CX0 1 T.a_l_cell_at T.d_l_cell_at ["_law_script", "_law_k"] (spCell K) := by
  refine T.F_l_cell_at.ok sc_l_cell_at (fun vs H Q E h => ?_) (fun cdv A outer s H vs Q E hr h => ?_)
  · obtain ⟨a, ns, k, rfl, _⟩ := h
    rfl
  · obtain ⟨a, ns, k, rfl, hS, h0, q⟩ := h
    refine ⟨_, (pss_cons (ps_if (pt_cmpR op_lt (pv 1) (pe_callB call_len_seq (by rfl) T.m_len (by decide +kernel) (pa_cons (pv 0) pa_nil)) (nomark _)) (pss_one (ps_ret (pe_ix ix_list (pv 0) (pv 1) (fun _ _ => rfl)))) pss_nil)
      (pss_one (ps_ret pe_int))), ?_⟩
    refine ⟨_, rfl, _, rfl, _, _, rfl, .inl hS, ?_⟩
    repeat' walk_at "g"
    refine ite2 (fun c => ?_) (fun c => ?_)
    · have c := of_decide_eq_true c
      refine ⟨_, rfl, _, rfl, ?_⟩
      refine ixP (fun v => ∃ i, v = .int i ∧ i ∈ ns) hS h0 c (fun v hv => ?_) (fun v ⟨i, e, m⟩ => ?_)
      · obtain ⟨i, m, e⟩ := List.mem_map.mp hv
        exact ⟨i, e.symm, m⟩
      · subst e
        exact q i (.inl m)
    · exact q 0 (.inr rfl)
theorem ok_l_truth (T : Txt K mg) : FnOk P w K mg base CX0 1 T.a_l_truth T.d_l_truth ["_law_found", "_law_due"] spTruth := by
  refine T.F_l_truth.ok sc_l_truth (fun vs H Q E h => ?_) (fun cdv A outer s H vs Q E hr h => ?_)
  · obtain ⟨f, d, rfl, _⟩ := h
    rfl
  · obtain ⟨f, d, rfl, q⟩ := h
    refine ⟨_, (pss_one (ps_ret (pe_ix ix_list (pe_lst (pa_cons (pe_cmpR op_is_bl (pv 0) pe_bl (nomark _)) (pa_cons (pe_cmpR op_is_bl (pv 0) pe_bl (nomark _)) pa_nil))) (pe_callTy call_int1 (by rfl) T.m_int (by decide +kernel) (pa_cons (pv 1) pa_nil)) (fun _ _ => rfl)))), ?_⟩
    repeat' walk_at "g"
    refine .inr ⟨_, rfl, ?_⟩
    cases d
    all_goals
      repeat' walk_at "g"
      cases f
      all_goals exact q _ (by walk_at "fr")
theorem ok_l_whole (T : Txt K mg) : FnOk P w K mg base CX0 1 T.a_l_whole T.d_l_whole ["_law_thing"] (spNumber K) := by
  refine T.F_l_whole.ok sc_l_whole (fun vs H Q E h => ?_) (fun cdv A outer s H vs Q E hr h => ?_)
  · obtain ⟨v, rfl, _⟩ := h
    rfl
  · obtain ⟨v, rfl, hv, q⟩ := h
    refine ⟨_, (pss_one (ps_ret (pe_and (pe_callB call_isi (by rfl) T.m_isinstance (by decide +kernel) (pa_cons (pv 0) (pa_cons (pe_bltn (v := .ty "int") (by rfl) T.m_int (by decide +kernel) rfl) pa_nil))) (pe_one (pe_not (pe_callB call_isi (by rfl) T.m_isinstance (by decide +kernel) (pa_cons (pv 0) (pa_cons (pe_bltn (v := .ty "bool") (by rfl) T.m_bool (by decide +kernel) rfl) pa_nil)))))))), ?_⟩
    repeat' walk_at "g"
    cases hv with
    | int i =>
      refine ⟨_, _, _, _, true, rfl, .ty _, .base (.int i), kit_ty (by decide +kernel), _, rfl, ifT rfl ?_⟩
      repeat' walk_at "g"
      exact ⟨_, _, _, _, false, rfl, .ty _, .base (.int i), kit_ty (by decide +kernel), _, rfl, q⟩
    | @odd _ t ty m n =>
      rw [n] at q
      simp only [others, List.mem_cons, List.not_mem_nil, or_false] at m
      rcases m with rfl | rfl | rfl | rfl | rfl | rfl
      · refine ⟨_, _, _, _, true, rfl, .ty _, ty, kit_ty (by decide +kernel), _, rfl, ifT rfl ?_⟩
        repeat' walk_at "g"
        exact ⟨_, _, _, _, true, rfl, .ty _, ty, kit_ty (by decide +kernel), _, rfl, q⟩
      all_goals exact ⟨_, _, _, _, false, rfl, .ty _, ty, kit_ty (by decide +kernel), _, rfl, ifF rfl q⟩
theorem ok_l_shared (T : Txt K mg) : FnOk P w K mg base CX0 1 T.a_l_shared T.d_l_shared ["_law_one", "_law_other"] spGcd2 := by
  refine T.F_l_shared.ok sc_l_shared (fun vs H Q E h => ?_) (fun cdv A outer s H vs Q E hr h => ?_)
  · obtain ⟨a, b, rfl, _⟩ := h
    rfl
  · obtain ⟨a, b, rfl, q⟩ := h
    refine ⟨_, (pss_cons (ps_set (i := 0) sc_l_shared.nd rfl (Or.inl rfl) (pe_callB call_abs (by rfl) T.m_abs (by decide +kernel) (pa_cons (pv 0) pa_nil)))
      (pss_cons (ps_set (i := 1) sc_l_shared.nd rfl (Or.inl rfl) (pe_callB call_abs (by rfl) T.m_abs (by decide +kernel) (pa_cons (pv 1) pa_nil)))
      (pss_cons (ps_while PassesOwn.never (pt_cmpR op_gt (pv 1) pe_int (nomark _)) (pss_one (ps_par (i := 0) (j := 1) (by rfl) sc_l_shared.nd rfl rfl (by decide) rfl rfl (pa_cons (pv 1) (pa_cons (pe_op op_mod (pv 0) (pv 1)) pa_nil)) (by rfl))))
      (pss_one (ps_ret (pv 0)))))), ?_⟩
    repeat' walk_at "g"
    rw [← gcd_abs] at q
    have a0 : 0 ≤ (if a < 0 then -a else a) := by split <;> omega
    have b0 : 0 ≤ (if b < 0 then -b else b) := by split <;> omega
    generalize (if a < 0 then -a else a) = a at *
    generalize (if b < 0 then -b else b) = b at *
    refine while_by (fun σ H' => ∃ x y : Int, σ = [some (.int x), some (.int y)] ∧ 0 ≤ x ∧ 0 ≤ y ∧ Int.gcd x y = Int.gcd a b ∧ H' = H) (fun σ _ => match σ with | [_, some (.int y)] => y.toNat | _ => 0) ⟨a, b, rfl, a0, b0, rfl, rfl⟩ ?_ ?_
    · rintro σ H' ⟨x, y, rfl, x0, y0, e, rfl⟩
      repeat' walk_at "g"
      refine ifC (fun c => ?_) (fun c => ?_)
      · have c := of_decide_eq_true c
        refine ⟨_, rfl, _, rfl, _, rfl, _, _, rfl, rfl, c, _, _, rfl, ⟨_, _, rfl, y0, Int.emod_nonneg _ (by omega), (gcd_turn x0 c).trans e, rfl⟩, ?_⟩
        show (x % y).toNat < y.toNat
        have := Int.emod_lt_of_pos x c
        have := Int.emod_nonneg x (show y ≠ 0 by omega)
        omega
      · have c := of_decide_eq_false c
        have y1 : y = 0 := by omega
        subst y1
        rw [← e] at q
        refine ⟨_, rfl, ?_⟩
        have e2 : ((Int.gcd x 0 : Nat) : Int) = x := by
          rw [Int.gcd_zero_right]
          omega
        rw [e2] at q
        exact q
    · exact fun σ H Q Q' k ⟨v, e, i, j, e1, e2, b, eb, q⟩ => ⟨v, e, i, j, e1, e2, b, eb, k _ _ q⟩
end

theorem fr_things {K : PySem.W.Frag} {H : Hp} {a : Rat} : ∀ x ∈ pr a, Thing K H x := fun x hx => by
  simp only [pr, List.mem_cons, List.not_mem_nil, or_false] at hx
  rcases hx with rfl | rfl
  · exact .int _
  · exact .int _
theorem fr_is (a : Rat) : isFr (pr a) = true := by
  show (decide (1 ≤ (a.den : Int)) && decide (Int.gcd a.num (a.den : Int) = 1)) = true
  have := den_pos a
  rw [decide_eq_true (by omega), decide_eq_true (num_gcd a)]
  rfl
theorem mo_is (a : Rat) : isMo (pr a) = decide (0 ≤ a.num) := by
  show ((decide (1 ≤ (a.den : Int)) && decide (Int.gcd a.num (a.den : Int) = 1)) && decide (0 ≤ a.num)) = decide (0 ≤ a.num)
  have := den_pos a
  rw [decide_eq_true (by omega), decide_eq_true (num_gcd a)]
  rfl
/-- a thing that is no fraction, seen so in H -/
inductive NoFr (K : PySem.W.Frag) (H : Hp) : V → Prop where
  | tup {p : Addr} {xs : List V} (e : H p = some (.tup xs)) (t : ∀ x ∈ xs, Thing K H x) (n : isFr xs = false) : NoFr K H (.ref p)
  | odd {v : V} {t : String} (ty : TyX K H v (.type t)) (m : t ∈ notuple) : NoFr K H v
def spRefused (K : PySem.W.Frag) : Sp := fun vs H Q _ => ∃ v1 v2, vs = [v1, v2] ∧ Thing K H v1 ∧ Thing K H v2 ∧ (isI v1 = false ∨ isI v2 = false ∨ v2 = .int 0) ∧ ∀ H', Same H H' → Q (.bl true) H'
def spRight : Sp := fun vs H Q _ => ∃ (p : Addr) (a : Rat) (t b : Int), vs = [.ref p, .int t, .int b] ∧ H p = some (.tup (pr a)) ∧ a.num * b = t * (a.den : Int) ∧ Sm 8000 a.num ∧ Sm 8000 (a.den : Int) ∧ Sm 8000 t ∧ Sm 8000 b ∧ ∀ H', Same H H' → Q (.bl true) H'
def spOther (K : PySem.W.Frag) : Sp := fun vs H Q _ => ∃ (f p : Addr) (a : Rat) (xs : List V), vs = [.ref f, .ref p] ∧ H f = some (.tup (pr a)) ∧ Sm 8000 a.num ∧ Sm 8000 (a.den : Int) ∧ H p = some (.lst xs) ∧ IsSt xs ∧
  ∀ H' v xs', Frm p H H' → H' p = some (.lst xs') → IsSt xs' → NoFr K H' v → Q v H'
theorem ints_things {K : PySem.W.Frag} {H : Hp} {ns : List Int} : ∀ x ∈ ns.map V.int, Thing K H x := fun v hv => by
  obtain ⟨n, _, rfl⟩ := List.mem_map.mp hv
  exact .int n
theorem twice {a : Rat} {m : Int} (h : 0 ≤ m) : isFr [.int (a.num * (2 + m)), .int ((a.den : Int) * (2 + m))] = false := by
  show (decide (1 ≤ (a.den : Int) * (2 + m)) && decide (Int.gcd (a.num * (2 + m)) ((a.den : Int) * (2 + m)) = 1)) = false
  rw [Int.gcd_mul_right, num_gcd, Nat.one_mul, decide_eq_false (by omega : ¬ (2 + m).natAbs = 1), Bool.and_false]
theorem negs {a : Rat} : isFr [.int (-a.num), .int (-(a.den : Int))] = false := by
  have := den_pos a
  show (decide (1 ≤ -(a.den : Int)) && _) = false
  rw [decide_eq_false (by omega : ¬ 1 ≤ -(a.den : Int)), Bool.false_and]
theorem nought {x y : Int} (h : y = 0) : isFr [.int x, .int y] = false := by
  subst h
  rfl
theorem Sm.ediv {n : Nat} {x y : Int} (h : Sm n x) : Sm n (x / y) := h.le (Int.natAbs_ediv_le_natAbs x y)
theorem pow40 (i : Nat) : (2 : Int) ^ (40 * (i + 1)) = 2 ^ (40 * i) * 1099511627776 := by
  rw [Nat.mul_add, Int.pow_add]
  rfl
section
variable {P : Program} {w : World} {K : PySem.W.Frag} {mg : Str → Option Value} {base : Heap}
theorem ok_l_great (T : Txt K mg) : FnOk P w K mg base CX0 2 T.a_l_great T.d_l_great ["_law_state"] spGreat := by
  refine T.F_l_great.ok sc_l_great (fun vs H Q E h => ?_) (fun cdv A outer s H vs Q E hr h => ?_)
  · obtain ⟨p, xs, rfl, _⟩ := h
    rfl
  · obtain ⟨p, xs, rfl, hp, hx, q⟩ := h
    refine ⟨_, (pss_cons (ps_set (i := 1) sc_l_great.nd rfl (Or.inl rfl) pe_int)
      (pss_cons (ps_for PassesOwn.never rfl (pi_range1 (by rfl) T.m_range (pa_cons pe_int pa_nil)) (pg_name (i := 2) sc_l_great.nd rfl (Or.inl rfl))
        (pss_one (ps_set (i := 1) sc_l_great.nd rfl (Or.inl rfl) (pe_op op_add (pe_op op_mul (pv 1) (pe_op op_pow pe_int pe_int)) (pe_call (ok_l_digit T) (hr.mono (by decide)) (by rfl) T.g_l_digit T.F_l_digit.kp T.b_l_digit .nil pass0 (pa_cons (pv 0) (pa_cons (pe_op op_add (pe_op op_pow pe_int pe_int) pe_int) pa_nil)))))))
      (pss_one (ps_ret (pv 1))))), ?_⟩
    repeat' walk_at "g"
    refine ⟨by decide, by decide, for_range (lo := 0) (n := 4) (fun i σ H' => ∃ n y xs', σ = [some (.ref p), some (.int n), y] ∧ Frm p H H' ∧ H' p = some (.lst xs') ∧ IsSt xs' ∧ 0 ≤ n ∧ n < 2 ^ (40 * i)) ⟨0, none, _, rfl, Frm.refl, hp, hx, by decide, by decide⟩ ?_ ?_⟩
    · rintro i σ H1 hi ⟨n, y, xs1, rfl, f1, h1, x1, n0, n1⟩
      repeat' walk_at "g"
      walk_at "dg"
      rename_i H2 d xs2 f2 h2 x2 d0 d1
      repeat' walk_at "g"
      have e10 : (10 : Int) ^ (Int.toNat 10) = 10000000000 := by decide
      have e9 : (10 : Int) ^ (Int.toNat 9) = 1000000000 := by decide
      have n2 : n * (10 : Int) ^ (Int.toNat 10) + d < 2 ^ (40 * (i + 1)) := by
        rw [pow40, e10]
        rw [e9] at d1
        generalize (2 : Int) ^ (40 * i) = X at n1
        omega
      refine ⟨_, _, _, rfl, by walk_at "fr", h2, x2, ?_, n2⟩
      show 0 ≤ n * (10 : Int) ^ (Int.toNat 10) + d
      rw [e10]
      omega
    · rintro σ H1 ⟨n, y, xs1, rfl, f1, h1, x1, n0, n1⟩
      repeat' walk_at "g"
      refine q _ _ _ f1 h1 x1 ?_
      unfold Sm
      have e : (2 : Int) ^ (40 * 4) = 1461501637330902918203684832716283019655932542976 := by decide
      rw [e] at n1
      have e2 : (2 : Nat) ^ 160 = 1461501637330902918203684832716283019655932542976 := by decide
      rw [e2]
      omega
theorem ok_l_number (T : Txt K mg) : FnOk P w K mg base CX0 3 T.a_l_number T.d_l_number ["_law_state"] spNum := by
  refine T.F_l_number.ok sc_l_number (fun vs H Q E h => ?_) (fun cdv A outer s H vs Q E hr h => ?_)
  · obtain ⟨p, xs, rfl, _⟩ := h
    rfl
  · obtain ⟨p, xs, rfl, hp, hx, q⟩ := h
    refine ⟨_, (pss_cons (ps_set (i := 1) sc_l_number.nd rfl (Or.inl rfl) (pe_call (ok_l_digit T) (hr.mono (by decide)) (by rfl) T.g_l_digit T.F_l_digit.kp T.b_l_digit .nil pass0 (pa_cons (pv 0) (pa_cons pe_int pa_nil))))
      (pss_cons (ps_set (i := 2) sc_l_number.nd rfl (Or.inl rfl) (pe_ix ix_list (pe_lst (pa_cons pe_int (pa_cons pe_int (pa_cons (pe_un un_neg pe_int) pa_nil)))) (pe_call (ok_l_digit T) (hr.mono (by decide)) (by rfl) T.g_l_digit T.F_l_digit.kp T.b_l_digit .nil pass0 (pa_cons (pv 0) (pa_cons pe_int pa_nil))) (fun _ _ => rfl)))
      (pss_cons (ps_set (i := 3) sc_l_number.nd rfl (Or.inl rfl) (pe_lst (pa_cons (pe_call (ok_l_digit T) (hr.mono (by decide)) (by rfl) T.g_l_digit T.F_l_digit.kp T.b_l_digit .nil pass0 (pa_cons (pv 0) (pa_cons pe_int pa_nil))) (pa_cons (pe_call (ok_l_digit T) (hr.mono (by decide)) (by rfl) T.g_l_digit T.F_l_digit.kp T.b_l_digit .nil pass0 (pa_cons (pv 0) (pa_cons pe_int pa_nil))) (pa_cons pe_int (pa_cons pe_int (pa_cons (pe_op op_mul pe_int (pe_call (ok_l_digit T) (hr.mono (by decide)) (by rfl) T.g_l_digit T.F_l_digit.kp T.b_l_digit .nil pass0 (pa_cons (pv 0) (pa_cons pe_int pa_nil)))) (pa_cons (pe_op op_pow pe_int pe_int) pa_nil))))))))
      (pss_one (ps_ret (pe_op op_mul (pv 2) (pe_ix ix_list (pe_op op_cat (pv 3) (pe_lst (pa_cons (pe_call (ok_l_great T) (hr.mono (by decide)) (by rfl) T.g_l_great T.F_l_great.kp T.b_l_great .nil pass0 (pa_cons (pv 0) pa_nil)) (pa_cons (pe_op op_fdiv (pe_op op_mul pe_int (pe_call (ok_l_great T) (hr.mono (by decide)) (by rfl) T.g_l_great T.F_l_great.kp T.b_l_great .nil pass0 (pa_cons (pv 0) pa_nil))) (pe_op op_pow pe_int pe_int)) pa_nil)))) (pv 1) (fun _ _ => rfl)))))))), ?_⟩
    repeat' walk_at "g"
    walk_at "dg"
    rename_i Hw way xsw fw hw stw w0 w8
    repeat' walk_at "g"
    walk_at "dg"
    rename_i H1 d1 xs1 f1 h1 st1 d10 d11
    refine' ixP (fun v => v = .int 1 ∨ v = .int (-1)) (SqL.of ?h) d10 ?h1 ?al (fun sv hsv => ?_)
    case h => walk_at "hp"
    case h1 => exact d11
    case al => simp
    repeat' walk_at "g"
    walk_at "dg"
    rename_i H2 d2 xs2 f2 h2 st2 d20 d21
    repeat' walk_at "g"
    walk_at "dg"
    rename_i H3 d3 xs3 f3 h3 st3 d30 d31
    repeat' walk_at "g"
    walk_at "dg"
    rename_i H4 d4 xs4 f4 h4 st4 d40 d41
    repeat' walk_at "g"
    refine ⟨_, _, rfl, by walk_at "hp", by assumption, fun H5 g5 xs5 f5 h5 st5 s5 => ?_⟩
    repeat' walk_at "g"
    refine ⟨_, _, rfl, by walk_at "hp", by assumption, fun H6 g6 xs6 f6 h6 st6 s6 => ?_⟩
    repeat' walk_at "g"
    intro c nc
    repeat' walk_at "g"
    refine' ixP (fun v => ∃ i, v = .int i ∧ Sm 190 i) (SqL.of ?h) w0 ?h1 ?al (fun iv hiv => ?_)
    case h => walk_at "hp"
    case h1 => exact w8
    case al =>
      intro v hv
      simp only [List.cons_append, List.nil_append, List.mem_cons, List.not_mem_nil, or_false] at hv
      have e31 : (6 : Int) * d4 < 190 := by omega
      rcases hv with rfl | rfl | rfl | rfl | rfl | rfl | rfl | rfl
      · exact ⟨_, rfl, by unfold Sm; omega⟩
      · exact ⟨_, rfl, by unfold Sm; omega⟩
      · exact ⟨_, rfl, by unfold Sm; decide⟩
      · exact ⟨_, rfl, by unfold Sm; decide⟩
      · exact ⟨_, rfl, by unfold Sm; omega⟩
      · exact ⟨_, rfl, by unfold Sm; decide⟩
      · exact ⟨_, rfl, s5.mono (by decide)⟩
      · exact ⟨_, rfl, Sm.mono (Sm.ediv (Sm.mul (a := 8) (by unfold Sm; decide) s6)) (by decide)⟩
    obtain ⟨i, rfl, si⟩ := hiv
    rcases hsv with rfl | rfl
    all_goals
      repeat' walk_at "g"
      refine q _ _ _ (by walk_at "fr") (by walk_at "hp") (by assumption) ?_
      unfold Sm at si ⊢
      omega
theorem ok_l_lowest (T : Txt K mg) : FnOk P w K mg base CX0 2 T.a_l_lowest T.d_l_lowest ["_law_found"] spLowest := by
  refine T.F_l_lowest.ok sc_l_lowest (fun vs H Q E h => ?_) (fun cdv A outer s H vs Q E hr h => ?_)
  · obtain ⟨p, a, rfl, _⟩ := h
    rfl
  · obtain ⟨p, a, rfl, hp, q⟩ := h
    refine ⟨_, (pss_cons (ps_if (PW.pt (pw_or (pt_not (pt_val (pe_callB call_isi (by rfl) T.m_isinstance (by decide +kernel) (pa_cons (pv 0) (pa_cons (pe_bltn (v := .ty "tuple") (by rfl) T.m_tuple (by decide +kernel) rfl) pa_nil))))) (pw_or (pt_cmpR op_ne (pe_callB call_len_seq (by rfl) T.m_len (by decide +kernel) (pa_cons (pv 0) pa_nil)) pe_int (nomark _)) (pw_or (pt_not (pt_val (pe_call (ok_l_whole T) (hr.mono (by decide)) (by rfl) T.g_l_whole T.F_l_whole.kp T.b_l_whole .nil pass0 (pa_cons (pe_ix ix_tup (pv 0) pe_int (fun _ _ => rfl)) pa_nil)))) (pw_or1 (pt_not (pt_val (pe_call (ok_l_whole T) (hr.mono (by decide)) (by rfl) T.g_l_whole T.F_l_whole.kp T.b_l_whole .nil pass0 (pa_cons (pe_ix ix_tup (pv 0) pe_int (fun _ _ => rfl)) pa_nil))))))))) (pss_one (ps_ret pe_bl)) pss_nil)
      (pss_one (ps_ret (pe_and (pe_cmpR op_gt (pe_ix ix_tup (pv 0) pe_int (fun _ _ => rfl)) pe_int (nomark _)) (pe_one (pe_cmpR op_eq (pe_call (ok_l_shared T) (hr.mono (by decide)) (by rfl) T.g_l_shared T.F_l_shared.kp T.b_l_shared .nil pass0 (pa_cons (pe_ix ix_tup (pv 0) pe_int (fun _ _ => rfl)) (pa_cons (pe_ix ix_tup (pv 0) pe_int (fun _ _ => rfl)) pa_nil))) pe_int (nomark _))))))), ?_⟩
    repeat' walk_at "g"
    refine ⟨_, _, _, _, true, rfl, .ty _, .base (.tup hp), kit_ty (by decide +kernel), ?_⟩
    repeat' walk_at "g"
    refine ⟨.int _, ?_⟩
    repeat' walk_at "g"
    refine ⟨.int _, ?_⟩
    repeat' walk_at "g"
    refine ifT (decide_eq_true (den_pos a)) ?_
    repeat' walk_at "g"
    rw [num_gcd]
    repeat' walk_at "g"
    exact q
theorem ok_l_refused (T : Txt K mg) : FnOk P w K mg base CX0 3 T.a_l_refused T.d_l_refused ["_law_first", "_law_second"] (spRefused K) := by
  refine T.F_l_refused.ok sc_l_refused (fun vs H Q E h => ?_) (fun cdv A outer s H vs Q E hr h => ?_)
  · obtain ⟨v1, v2, rfl, _⟩ := h
    rfl
  · obtain ⟨v1, v2, rfl, t1, t2, hn, q⟩ := h
    refine ⟨_, (pss_cons (ps_try_as (i := 2) rfl rfl sc_l_refused.nd rfl rfl ⟨rfl, by decide, .inl T.g_ScrollError⟩ takes0
        (fun W pn xe tk _ => (pss_one (ps_expr (pe_callS (ok_fraction T) (hr.mono (by decide)) (by rfl) T.g_fraction T.F_fraction.kp T.b_fraction (fun σ => passAt tk σ) (pa_cons (pv 0) (pa_cons (pv 1) pa_nil))))))
        (fun a oe cls d pn hz hf => (pss_one (ps_ret (pe_and (pe_callB (call_isE2 (K := K) rfl hz hf) (by rfl) T.m_isinstance (by decide +kernel) (pa_cons (pv 2) (pa_cons (pe_glob (v := .ref T.c_NoFraction) (by rfl) T.g_NoFraction rfl) pa_nil))) (pe_one (pe_callB (call_isE2 (K := K) rfl hz hf) (by rfl) T.m_isinstance (by decide +kernel) (pa_cons (pv 2) (pa_cons (pe_bltn (v := .ty "ValueError") (by rfl) T.m_ValueError (by decide +kernel) rfl) pa_nil)))))))))
      (pss_one (ps_ret pe_bl))), ?_⟩
    refine ⟨_, rfl, _, rfl, _, _, rfl, t1, t2, .inr ⟨hn, true, T.em_NoFraction_ScrollError, fun _ a ha => ?_, fun z => Bool.noConfusion z⟩⟩
    refine ⟨_, rfl, _, rfl, rfl, T.xc_NoFraction, _, _, true, rfl, fun u r => r, T.io_NoFraction_NoFraction, _, rfl, ifT rfl ?_⟩
    exact ⟨_, rfl, _, rfl, rfl, T.xc_NoFraction, _, _, true, rfl, fun u r => r, T.io_NoFraction_ValueError, q _ (Same.refl _)⟩
theorem ok_l_right (T : Txt K mg) : FnOk P w K mg base CX0 4 T.a_l_right T.d_l_right ["_law_found", "_law_first", "_law_second"] spRight := by
  refine T.F_l_right.ok sc_l_right (fun vs H Q E h => ?_) (fun cdv A outer s H vs Q E hr h => ?_)
  · obtain ⟨p, a, t, b, rfl, _⟩ := h
    rfl
  · obtain ⟨p, a, t, b, rfl, hp, hx, s1, s2, s3, s4, q⟩ := h
    refine ⟨_, (pss_cons (ps_if (PW.pt (pw_or (pt_not (pt_val (pe_call (ok_l_lowest T) (hr.mono (by decide)) (by rfl) T.g_l_lowest T.F_l_lowest.kp T.b_l_lowest .nil pass0 (pa_cons (pv 0) pa_nil)))) (pw_or1 (pt_cmpR op_ne (pe_op op_mulW (pe_ix ix_tup (pv 0) pe_int (fun _ _ => rfl)) (pv 2)) (pe_op op_mulW (pv 1) (pe_ix ix_tup (pv 0) pe_int (fun _ _ => rfl))) (nomark _))))) (pss_one (ps_ret pe_bl)) pss_nil)
      (pss_cons (ps_if (PW.pt (pw_or (pt_cmpR op_isnot_bl (pe_call (ok_is_fraction T) (hr.mono (by decide)) (by rfl) T.g_is_fraction T.F_is_fraction.kp T.b_is_fraction .nil pass0 (pa_cons (pv 0) pa_nil)) pe_bl (nomark _)) (pw_or1 (pt_not (pt_val (pe_call (ok_l_truth T) (hr.mono (by decide)) (by rfl) T.g_l_truth T.F_l_truth.kp T.b_l_truth .nil pass0 (pa_cons (pe_call (ok_is_moment T) (hr.mono (by decide)) (by rfl) T.g_is_moment T.F_is_moment.kp T.b_is_moment .nil pass0 (pa_cons (pv 0) pa_nil)) (pa_cons (pe_cmpR op_ge (pe_ix ix_tup (pv 0) pe_int (fun _ _ => rfl)) pe_int (nomark _)) pa_nil)))))))) (pss_one (ps_ret pe_bl)) pss_nil)
      (pss_cons (ps_set (i := 3) sc_l_right.nd rfl (Or.inl rfl) (pe_call (ok_floor T) (hr.mono (by decide)) (by rfl) T.g_floor T.F_floor.kp T.b_floor .nil pass0 (pa_cons (pv 0) pa_nil)))
      (pss_one (ps_ret (pe_and (pe_call (ok_l_whole T) (hr.mono (by decide)) (by rfl) T.g_l_whole T.F_l_whole.kp T.b_l_whole .nil pass0 (pa_cons (pv 3) pa_nil)) (pe_one (pe_chainI op_le op_lt (pe_op op_mulW (pv 3) (pe_ix ix_tup (pv 0) pe_int (fun _ _ => rfl))) (pe_ix ix_tup (pv 0) pe_int (fun _ _ => rfl)) (pe_op op_mulW (pe_op op_add (pv 3) pe_int) (pe_ix ix_tup (pv 0) pe_int (fun _ _ => rfl))) (mn_I mn_var (mn_ixT mn_var mn_c)) (mn_ixT mn_var mn_c) (mn_I (mn_I0 mn_var mn_c) (mn_ixT mn_var mn_c)) (sh_I (sh_I0 sh_var sh_c) (sh_ixT sh_var sh_c)))))))))), ?_⟩
    repeat' walk_at "g"
    refine ⟨_, _, rfl, hp, _, rfl, ?_⟩
    repeat' walk_at "g"
    refine ifF (by show (!decide (V.int (a.num * b) = V.int (t * (a.den : Int)))) = false; rw [hx, decide_eq_true rfl]; rfl) ?_
    repeat' walk_at "g"
    refine .inl ⟨_, _, rfl, hp, fr_things, ?_⟩
    rw [fr_is]
    repeat' walk_at "g"
    refine .inl ⟨_, _, rfl, hp, fr_things, ?_⟩
    rw [mo_is]
    repeat' walk_at "g"
    refine ⟨_, _, rfl, fun H1 f1 => ?_⟩
    repeat' walk_at "g"
    refine ifF (by simp) ?_
    repeat' walk_at "g"
    refine ⟨_, _, rfl, by walk_at "hp", s2, ?_⟩
    have dn := den_pos a
    rw [Int.fdiv_eq_ediv_of_nonneg _ (Int.le_of_lt dn)]
    have s5 : Sm 8000 (a.num / (a.den : Int)) := Sm.ediv s1
    repeat' walk_at "g"
    refine ⟨.int _, ?_⟩
    repeat' walk_at "g"
    refine ⟨_, _, _, rfl, rfl, rfl, rfl, ?_⟩
    have c1 : a.num / (a.den : Int) * (a.den : Int) ≤ a.num := Int.ediv_mul_le _ (by omega)
    have c2 : a.num < (a.num / (a.den : Int) + 1) * (a.den : Int) := Int.lt_ediv_add_one_mul_self _ dn
    show Q (.bl (decide (a.num / (a.den : Int) * (a.den : Int) ≤ a.num) && decide (a.num < (a.num / (a.den : Int) + 1) * (a.den : Int)))) H1
    rw [decide_eq_true c1, decide_eq_true c2]
    exact q _ f1
theorem ok_l_written_otherwise (T : Txt K mg) : FnOk P w K mg base CX0 2 T.a_l_written_otherwise T.d_l_written_otherwise ["_law_found", "_law_state"] (spOther K) := by
  refine T.F_l_written_otherwise.ok sc_l_written_otherwise (fun vs H Q E h => ?_) (fun cdv A outer s H vs Q E hr h => ?_)
  · obtain ⟨f, p, a, xs, rfl, _⟩ := h
    rfl
  · obtain ⟨f, p, a, xs, rfl, hf, s1, s2, hp, hx, q⟩ := h
    refine ⟨_, (pss_cons (ps_asg (pv 0) (pg_tup rfl (pgs_cons (pg_name (i := 2) sc_l_written_otherwise.nd rfl (Or.inl rfl)) (pgs_cons (pg_name (i := 3) sc_l_written_otherwise.nd rfl (Or.inl rfl)) pgs_nil))))
      (pss_cons (ps_set (i := 4) sc_l_written_otherwise.nd rfl (Or.inl rfl) (pe_op op_add pe_int (pe_call (ok_l_digit T) (hr.mono (by decide)) (by rfl) T.g_l_digit T.F_l_digit.kp T.b_l_digit .nil pass0 (pa_cons (pv 1) (pa_cons pe_int pa_nil)))))
      (pss_cons (ps_set (i := 5) sc_l_written_otherwise.nd rfl (Or.inl rfl) (pe_lst (pa_cons (pe_tup (pa_cons (pe_op op_mulW (pv 2) (pv 4)) (pa_cons (pe_op op_mulW (pv 3) (pv 4)) pa_nil))) (pa_cons (pe_tup (pa_cons (pe_un un_neg (pv 2)) (pa_cons (pe_un un_neg (pv 3)) pa_nil))) (pa_cons (pe_lst (pa_cons (pv 2) (pa_cons (pv 3) pa_nil))) (pa_cons (pe_tup (pa_cons (pv 2) pa_nil)) (pa_cons (pe_tup (pa_cons (pv 2) (pa_cons (pv 3) (pa_cons pe_int pa_nil)))) (pa_cons (pe_tup (pa_cons (pv 2) (pa_cons pe_int pa_nil))) pa_nil))))))))
      (pss_cons (ps_set (i := 5) sc_l_written_otherwise.nd rfl (Or.inl rfl) (pe_op op_cat (pv 5) (pe_lst (pa_cons (pe_tup (pa_cons (pe_callTy call_str_int (by rfl) T.m_str (by decide +kernel) (pa_cons (pe_op op_mod (pv 2) pe_int) pa_nil)) (pa_cons (pv 3) pa_nil))) (pa_cons (pe_tup (pa_cons (pv 2) (pa_cons pe_non pa_nil))) (pa_cons (pe_tup (pa_cons pe_bl (pa_cons pe_int pa_nil))) (pa_cons (pe_tup (pa_cons pe_int (pa_cons pe_int pa_nil))) (pa_cons (pv 2) (pa_cons pe_non (pa_cons (pe_tup (pa_cons pe_int (pa_cons pe_bl pa_nil))) pa_nil))))))))))
      (pss_cons (ps_set (i := 5) sc_l_written_otherwise.nd rfl (Or.inl rfl) (pe_op op_cat (pv 5) (pe_lst (pa_cons (pe_tup (pa_cons (pv 2) (pa_cons (pe_op op_sub (pv 3) (pv 3)) pa_nil))) pa_nil))))
      (pss_one (ps_ret (pe_ix ix_list (pv 5) (pe_call (ok_l_digit T) (hr.mono (by decide)) (by rfl) T.g_l_digit T.F_l_digit.kp T.b_l_digit .nil pass0 (pa_cons (pv 1) (pa_cons (pe_callB call_len_seq (by rfl) T.m_len (by decide +kernel) (pa_cons (pv 5) pa_nil)) pa_nil))) (fun _ _ => rfl))))))))), ?_⟩
    have fp : f ≠ p := ne_of hf hp (fun z => nomatch z)
    repeat' walk_at "g"
    refine ⟨_, _, rfl, SqT.of hf, rfl, _, _, rfl, _, _, rfl, rfl, ?_⟩
    repeat' walk_at "g"
    walk_at "dg"
    rename_i H1 m xs1 f1 h1 st1 m0 m9
    have sm : Sm 64 (2 + m) := by unfold Sm; omega
    repeat' walk_at "g"
    refine ⟨log_small (Int.emod_nonneg _ (by decide)) (Int.emod_lt_of_pos _ (by decide)), ?_⟩
    repeat' walk_at "g"
    intro c1 nc1
    repeat' walk_at "g"
    intro c2 nc2
    repeat' walk_at "g"
    refine ⟨_, _, _, rfl, by walk_at "hp", by assumption, by simp, by simp, fun H9 d9 xs9 f9 h9 st9 d0 d1 => ?_⟩
    refine' ixP (fun v => NoFr K H9 v) (SqL.of ?h) d0 ?h1 ?al (fun iv hiv => ?_)
    case h => walk_at "hp"
    case h1 => exact d1
    case al =>
      intro v hv
      simp only [List.cons_append, List.nil_append, List.mem_cons, List.not_mem_nil, or_false] at hv
      rcases hv with rfl | rfl | rfl | rfl | rfl | rfl | rfl | rfl | rfl | rfl | rfl | rfl | rfl | rfl
      · exact .tup (by walk_at "hp") (ints_things (ns := [_, _])) (twice m0)
      · exact .tup (by walk_at "hp") (ints_things (ns := [_, _])) negs
      · exact .odd (.base (.lst (by walk_at "hp"))) (by simp [notuple])
      · exact .tup (by walk_at "hp") (ints_things (ns := [_])) rfl
      · exact .tup (by walk_at "hp") (ints_things (ns := [_, _, _])) rfl
      · exact .tup (by walk_at "hp") (ints_things (ns := [_, _])) (nought rfl)
      · refine .tup (by walk_at "hp") (fun x hx => ?_) rfl
        simp only [List.mem_cons, List.not_mem_nil, or_false] at hx
        rcases hx with rfl | rfl
        · exact .odd (.base (.str _)) (by simp [others]) rfl
        · exact .int _
      · refine .tup (by walk_at "hp") (fun x hx => ?_) rfl
        simp only [List.mem_cons, List.not_mem_nil, or_false] at hx
        rcases hx with rfl | rfl
        · exact .int _
        · exact .odd (.base .non) (by simp [others]) rfl
      · refine .tup (by walk_at "hp") (fun x hx => ?_) rfl
        simp only [List.mem_cons, List.not_mem_nil, or_false] at hx
        rcases hx with rfl | rfl
        · exact .odd (.base (.bl _)) (by simp [others]) rfl
        · exact .int _
      · exact .tup (by walk_at "hp") (ints_things (ns := [_, _])) (by decide)
      · exact .odd (.base (.int _)) (by simp [notuple])
      · exact .odd (.base .non) (by simp [notuple])
      · refine .tup (by walk_at "hp") (fun x hx => ?_) rfl
        simp only [List.mem_cons, List.not_mem_nil, or_false] at hx
        rcases hx with rfl | rfl
        · exact .int _
        · exact .odd (.base (.bl _)) (by simp [others]) rfl
      · exact .tup (by walk_at "hp") (ints_things (ns := [_, _])) (nought (Int.sub_self _))
    exact q _ _ _ (by walk_at "fr") h9 st9 hiv
end

def spLaw (K : PySem.W.Frag) : Sp := fun vs H Q _ => ∃ (a : Addr) (ns : List Int), vs = [.ref a] ∧ SqL K H a (ns.map V.int) ∧ ns.length ≤ 63 ∧ ∀ H', Q (.bl true) H'
theorem isMo_of {xs : List V} (h : isFr xs = false) : isMo xs = false := by
  rcases xs with _ | ⟨x, _ | ⟨y, _ | ⟨z, r⟩⟩⟩
  · rfl
  · exact isMo1
  · cases x <;> first | rfl | skip
    cases y <;> first | rfl | skip
    rename_i a b
    have c2 : (decide (1 ≤ b) && decide (Int.gcd a b = 1)) = false := h
    show ((decide (1 ≤ b) && decide (Int.gcd a b = 1)) && decide (0 ≤ a)) = false
    rw [c2, Bool.false_and]
  · exact isMo3
section
variable {P : Program} {w : World} {K : PySem.W.Frag} {mg : Str → Option Value} {base : Heap}
theorem ok_law (T : Txt K mg) : FnOk P w K mg base CX0 5 T.a_law T.d_law ["_law_script"] (spLaw K) := by
  refine T.F_law.ok sc_law (fun vs H Q E h => ?_) (fun cdv A outer s H vs Q E hr h => ?_)
  · obtain ⟨a, ns, rfl, _⟩ := h
    rfl
  · obtain ⟨a, ns, rfl, hS, hlen, q⟩ := h
    refine ⟨_, (pss_cons (ps_set (i := 1) sc_law.nd rfl (Or.inl rfl) (pe_lst (pa_cons (pe_call (ok_l_cell_at T) (hr.mono (by decide)) (by rfl) T.g_l_cell_at T.F_l_cell_at.kp T.b_l_cell_at .nil pass0 (pa_cons (pv 0) (pa_cons pe_int pa_nil))) pa_nil)))
      (pss_cons (ps_set (i := 2) sc_law.nd rfl (Or.inl rfl) (pe_call (ok_l_number T) (hr.mono (by decide)) (by rfl) T.g_l_number T.F_l_number.kp T.b_l_number .nil pass0 (pa_cons (pv 1) pa_nil)))
      (pss_cons (ps_set (i := 3) sc_law.nd rfl (Or.inl rfl) (pe_call (ok_l_number T) (hr.mono (by decide)) (by rfl) T.g_l_number T.F_l_number.kp T.b_l_number .nil pass0 (pa_cons (pe_lst (pa_cons (pe_call (ok_l_cell_at T) (hr.mono (by decide)) (by rfl) T.g_l_cell_at T.F_l_cell_at.kp T.b_l_cell_at .nil pass0 (pa_cons (pv 0) (pa_cons pe_int pa_nil))) pa_nil)) pa_nil)))
      (pss_cons (ps_if (pt_cmpR op_eq (pv 3) pe_int (nomark _)) (pss_cons (ps_if (pt_not (pt_val (pe_call (ok_l_refused T) (hr.mono (by decide)) (by rfl) T.g_l_refused T.F_l_refused.kp T.b_l_refused .nil pass0 (pa_cons (pv 2) (pa_cons pe_int pa_nil))))) (pss_one (ps_ret pe_bl)) pss_nil)
      (pss_one (ps_set (i := 3) sc_law.nd rfl (Or.inl rfl) (pe_op op_add pe_int (pe_call (ok_l_digit T) (hr.mono (by decide)) (by rfl) T.g_l_digit T.F_l_digit.kp T.b_l_digit .nil pass0 (pa_cons (pv 1) (pa_cons pe_int pa_nil))))))) pss_nil)
      (pss_cons (ps_set (i := 4) sc_law.nd rfl (Or.inl rfl) (pe_call (ok_fraction T) (hr.mono (by decide)) (by rfl) T.g_fraction T.F_fraction.kp T.b_fraction .nil passL (pa_cons (pv 2) (pa_cons (pv 3) pa_nil))))
      (pss_cons (ps_if (PW.pt (pw_or (pt_not (pt_val (pe_call (ok_l_right T) (hr.mono (by decide)) (by rfl) T.g_l_right T.F_l_right.kp T.b_l_right .nil pass0 (pa_cons (pv 4) (pa_cons (pv 2) (pa_cons (pv 3) pa_nil)))))) (pw_or1 (pt_cmpR (op_neD hr.units) (pe_callN0 (ok_fraction T) (hr.mono (by decide)) (by rfl) T.g_fraction T.F_fraction.kp T.kb_fraction_bottom_top passL (pk_cons (pv 3) (pk_cons (pv 2) pk_nil))) (pv 4) (nomark _))))) (pss_one (ps_ret pe_bl)) pss_nil)
      (pss_cons (ps_if (PW.pt (pw_or (pt_not (pt_val (pe_call (ok_l_right T) (hr.mono (by decide)) (by rfl) T.g_l_right T.F_l_right.kp T.b_l_right .nil pass0 (pa_cons (pe_call (ok_fraction T) (hr.mono (by decide)) (by rfl) T.g_fraction T.F_fraction.kp T.b1_fraction T.v1_fraction passL (pa_cons (pv 2) pa_nil)) (pa_cons (pv 2) (pa_cons pe_int pa_nil)))))) (pw_or1 (pt_cmpR op_ne (pe_ix ix_tup (pe_call (ok_fraction T) (hr.mono (by decide)) (by rfl) T.g_fraction T.F_fraction.kp T.b1_fraction T.v1_fraction passL (pa_cons (pv 2) pa_nil)) pe_int (fun _ _ => rfl)) pe_int (nomark _))))) (pss_one (ps_ret pe_bl)) pss_nil)
      (pss_cons (ps_set (i := 5) sc_law.nd rfl (Or.inl rfl) (pe_call (ok_fraction T) (hr.mono (by decide)) (by rfl) T.g_fraction T.F_fraction.kp T.b_fraction .nil passL (pa_cons (pe_call (ok_l_number T) (hr.mono (by decide)) (by rfl) T.g_l_number T.F_l_number.kp T.b_l_number .nil pass0 (pa_cons (pe_lst (pa_cons (pe_call (ok_l_cell_at T) (hr.mono (by decide)) (by rfl) T.g_l_cell_at T.F_l_cell_at.kp T.b_l_cell_at .nil pass0 (pa_cons (pv 0) (pa_cons pe_int pa_nil))) pa_nil)) pa_nil)) (pa_cons (pe_op op_add pe_int (pe_call (ok_l_digit T) (hr.mono (by decide)) (by rfl) T.g_l_digit T.F_l_digit.kp T.b_l_digit .nil pass0 (pa_cons (pv 1) (pa_cons (pe_op op_pow pe_int pe_int) pa_nil)))) pa_nil))))
      (pss_cons (ps_for PassesOwn.never rfl (pi_list (pe_lst (pa_cons (pe_tup (pa_cons (pv 4) (pa_cons (pv 5) pa_nil))) (pa_cons (pe_tup (pa_cons (pv 5) (pa_cons (pv 4) pa_nil))) (pa_cons (pe_tup (pa_cons (pv 4) (pa_cons (pv 4) pa_nil))) pa_nil))))) (pg_tup rfl (pgs_cons (pg_name (i := 6) sc_law.nd rfl (Or.inl rfl)) (pgs_cons (pg_name (i := 7) sc_law.nd rfl (Or.inl rfl)) pgs_nil)))
        (pss_one (ps_if (pt_not (pt_val (pe_call (ok_l_truth T) (hr.mono (by decide)) (by rfl) T.g_l_truth T.F_l_truth.kp T.b_l_truth .nil pass0 (pa_cons (pe_call (ok_less T) (hr.mono (by decide)) (by rfl) T.g_less T.F_less.kp T.b_less .nil pass0 (pa_cons (pv 6) (pa_cons (pv 7) pa_nil))) (pa_cons (pe_cmpR op_lt (pe_op op_mulW (pe_ix ix_tup (pv 6) pe_int (fun _ _ => rfl)) (pe_ix ix_tup (pv 7) pe_int (fun _ _ => rfl))) (pe_op op_mulW (pe_ix ix_tup (pv 7) pe_int (fun _ _ => rfl)) (pe_ix ix_tup (pv 6) pe_int (fun _ _ => rfl))) (nomark _)) pa_nil))))) (pss_one (ps_ret pe_bl)) pss_nil)))
      (pss_cons (ps_set (i := 8) sc_law.nd rfl (Or.inl rfl) (pe_call (ok_l_written_otherwise T) (hr.mono (by decide)) (by rfl) T.g_l_written_otherwise T.F_l_written_otherwise.kp T.b_l_written_otherwise .nil pass0 (pa_cons (pv 4) (pa_cons (pv 1) pa_nil))))
      (pss_cons (ps_if (PW.pt (pw_or (pt_cmpR op_isnot_bl (pe_call (ok_is_fraction T) (hr.mono (by decide)) (by rfl) T.g_is_fraction T.F_is_fraction.kp T.b_is_fraction .nil pass0 (pa_cons (pv 8) pa_nil)) pe_bl (nomark _)) (pw_or1 (pt_cmpR op_isnot_bl (pe_call (ok_is_moment T) (hr.mono (by decide)) (by rfl) T.g_is_moment T.F_is_moment.kp T.b_is_moment .nil pass0 (pa_cons (pv 8) pa_nil)) pe_bl (nomark _))))) (pss_one (ps_ret pe_bl)) pss_nil)
      (pss_cons (ps_set (i := 9) sc_law.nd rfl (Or.inl rfl) (pe_ix ix_list (pe_lst (pa_cons pe_non (pa_cons pe_bl (pa_cons pe_bl (pa_cons pe_str (pa_cons (pe_lst (pa_cons pe_int pa_nil)) (pa_cons (pe_tup (pa_cons pe_int (pa_cons pe_int pa_nil))) (pa_cons pe_dnewK (pa_cons pe_str pa_nil))))))))) (pe_call (ok_l_digit T) (hr.mono (by decide)) (by rfl) T.g_l_digit T.F_l_digit.kp T.b_l_digit .nil pass0 (pa_cons (pv 1) (pa_cons pe_int pa_nil))) (fun _ _ => rfl)))
      (pss_one (ps_ret (pe_and (pe_call (ok_l_refused T) (hr.mono (by decide)) (by rfl) T.g_l_refused T.F_l_refused.kp T.b_l_refused .nil pass0 (pa_cons (pv 9) (pa_cons (pv 3) pa_nil))) (pe_one (pe_call (ok_l_refused T) (hr.mono (by decide)) (by rfl) T.g_l_refused T.F_l_refused.kp T.b_l_refused .nil pass0 (pa_cons (pv 2) (pa_cons (pv 9) pa_nil))))))))))))))))))), ?_⟩
    repeat' walk_at "g"
    refine ⟨_, _, _, rfl, hS, by decide, fun n0 _ => ?_⟩
    repeat' walk_at "g"
    rename_i p np
    refine ⟨_, _, rfl, upd_same, .inl ⟨_, rfl⟩, fun H1 t xs1 f1 h1 st1 s1 => ?_⟩
    have m1 : Same H H1 := by walk_at "fr"
    repeat' walk_at "g"
    refine ⟨_, _, _, rfl, m1.seq hS, by decide, fun n1 _ => ?_⟩
    repeat' walk_at "g"
    rename_i p2 np2
    have p2p : p2 ≠ p := new_ne np2 h1
    have np2H : H p2 = none := m1.free np2
    refine ⟨_, _, rfl, upd_same, .inl ⟨_, rfl⟩, fun H2 b2 xs2 f2 h2 st2 s2 => ?_⟩
    have m2 : Same H H2 := by walk_at "fr"
    have hp2 : H2 p = some (.lst xs1) := by walk_at "hp"
    clear f1 f2 h2 st2 m1
    repeat' walk_at "g"
    refine ifC (fun c => ?_) (fun c => ?_)
    · have c0 : b2 = 0 := V.int.inj (of_decide_eq_true c)
      repeat' walk_at "g"
      refine ⟨_, _, rfl, .int _, .int _, .inr (.inr rfl), fun H3 f3 => ?_⟩
      repeat' walk_at "g"
      walk_at "dg"
      rename_i H4 d4 xs4 f4 h4 st4 d40 d41
      have m3 : Same H H3 := by walk_at "fr"
      have m4 : Same H H4 := Same.byFrm m3 f4 np
      have hb : 1 + d4 ≠ 0 := by omega
      have sb : Sm 200 (1 + d4) := by unfold Sm; omega
      clear f4 f3 m2 hp2 m3
      have hB := h4
      have mB := m4
      have stB := st4
      obtain ⟨xsB, exB⟩ : ∃ xsB, xsB = xs4 := ⟨_, rfl⟩
      subst exB
      -- found
      repeat' walk_at "g"
      refine ⟨_, _, rfl, .int _, .int _, .inl ⟨_, _, rfl, rfl, hb, sb.mono (by decide), fun pf npf => ?_⟩⟩
      have npfH : H pf = none := mB.free npf
      have pfp : pf ≠ p := new_ne npf hB
      have sf1 := num_sm hb s1
      have sf2 := den_sm (t := t) hb sb
      have cr := divInt_cross (t := t) hb
      obtain ⟨fr, hfr⟩ : ∃ fr, fr = Rat.divInt t (1 + d4) := ⟨_, rfl⟩
      rw [← hfr] at sf1 sf2 cr
      rw [← hfr]
      repeat' walk_at "g"
      refine ⟨_, _, _, _, rfl, upd_same, cr, sf1.mono (by decide), sf2.mono (by decide), s1.mono (by decide), sb.mono (by decide), fun H5 f5 => ?_⟩
      repeat' walk_at "g"
      refine ⟨_, _, rfl, .int _, .int _, .inl ⟨_, _, rfl, rfl, hb, sb.mono (by decide), fun pg npg => ?_⟩⟩
      rw [← hfr]
      repeat' walk_at "g"
      have hpf5 : H5 pf = some (.tup (pr fr)) := by walk_at "hp"
      have hst5 : H5 p = some (.lst xsB) := by walk_at "hp"
      have m5 : Same H H5 := by walk_at "fr"
      refine neqIntsT (ns := [fr.num, (fr.den : Int)]) (ms := [fr.num, (fr.den : Int)]) (SqT.of upd_same) (SqT.of (upd_old npg hpf5)) ?_
      rw [decide_eq_true rfl]
      repeat' walk_at "g"
      -- fraction(first)
      refine ⟨_, _, rfl, .int _, .int _, .inl ⟨_, _, rfl, rfl, by decide, by unfold Sm; decide, fun ph nph => ?_⟩⟩
      have g1 := num_sm (b := 1) (by decide) s1
      have g2 : Sm 8000 ((Rat.divInt t 1).den : Int) := den_sm (t := t) (b := 1) (by decide) (by unfold Sm; decide)
      have g3 := divInt_cross (t := t) (b := 1) (by decide)
      have g4 : (Rat.divInt t 1).den = 1 := by simp [Rat.den_divInt]
      obtain ⟨f1r, hf1r⟩ : ∃ fr, fr = Rat.divInt t 1 := ⟨_, rfl⟩
      rw [← hf1r] at g1 g2 g3 g4
      rw [← hf1r]
      repeat' walk_at "g"
      refine ⟨_, _, _, _, rfl, upd_same, g3, g1.mono (by decide), g2, s1.mono (by decide), by unfold Sm; decide, fun H6 f6 => ?_⟩
      repeat' walk_at "g"
      refine ⟨_, _, rfl, .int _, .int _, .inl ⟨_, _, rfl, rfl, by decide, by unfold Sm; decide, fun pi npi => ?_⟩⟩
      rw [← hf1r]
      repeat' walk_at "g"
      refine ifF (by rw [g4]; rfl) ?_
      have hpf6 : H6 pf = some (.tup (pr fr)) := by walk_at "hp"
      have hst6 : H6 p = some (.lst xsB) := by walk_at "hp"
      have m6 : Same H H6 := by walk_at "fr"
      have m7 : Same H (upd H6 pi (.tup (pr f1r))) := by walk_at "fr"
      clear f5 f6 m5 m6 hst5 hpf5
      -- other
      repeat' walk_at "g"
      refine ⟨_, _, _, rfl, m7.seq hS, by decide, fun n2 _ => ?_⟩
      repeat' walk_at "g"
      rename_i p3 np3
      have hst7 : upd H6 pi (.tup (pr f1r)) p = some (.lst xsB) := by walk_at "hp"
      have hpf7 : upd H6 pi (.tup (pr f1r)) pf = some (.tup (pr fr)) := by walk_at "hp"
      have p3p : p3 ≠ p := new_ne np3 hst7
      have p3f : p3 ≠ pf := new_ne np3 hpf7
      have np3H : H p3 = none := m7.free np3
      refine ⟨_, _, rfl, upd_same, .inl ⟨_, rfl⟩, fun H8 t8 xs8 f8 h8 st8 s8 => ?_⟩
      have hst8 : H8 p = some (.lst xsB) := by walk_at "hp"
      have hpf8 : H8 pf = some (.tup (pr fr)) := by walk_at "hp"
      have m8 : Same H H8 := by walk_at "fr"
      clear f8 m7 hst7 hpf7 hst6 hpf6 np3 h8 st8
      repeat' walk_at "g"
      refine ⟨_, _, _, rfl, hst8, stB, by decide, by decide, fun H9 d9 xs9 f9 h9 st9 d90 d91 => ?_⟩
      have hpf9 : H9 pf = some (.tup (pr fr)) := by walk_at "hp"
      have m9 : Same H H9 := by walk_at "fr"
      have e6 : (10 : Int) ^ (Int.toNat 6) = 1000000 := by decide
      rw [e6] at d91
      have ho : 1 + d9 ≠ 0 := by omega
      have so : Sm 200 (1 + d9) := by unfold Sm; omega
      clear f9 hst8 hpf8 m8
      repeat' walk_at "g"
      refine ⟨_, _, rfl, .int _, .int _, .inl ⟨_, _, rfl, rfl, ho, so.mono (by decide), fun po npo => ?_⟩⟩
      have k1 := num_sm ho s8
      have k2 := den_sm (t := t8) ho so
      obtain ⟨ot, hot⟩ : ∃ fr, fr = Rat.divInt t8 (1 + d9) := ⟨_, rfl⟩
      rw [← hot] at k1 k2
      rw [← hot]
      repeat' walk_at "g"
      rename_i ta nta tb ntb tc ntc tl ntl
      have pop : po ≠ p := new_ne npo h9
      refine ⟨⟨_, SqL.of upd_same⟩, ?_⟩
      refine forL (K := K) (a := tl) (xs := [.ref ta, .ref tb, .ref tc]) (fun Hc _ σ H' => Same Hc H' ∧ Hc tl = some (.lst [.ref ta, .ref tb, .ref tc]) ∧ Hc ta = some (.tup [.ref pf, .ref po]) ∧ Hc tb = some (.tup [.ref po, .ref pf]) ∧ Hc tc = some (.tup [.ref pf, .ref pf]) ∧ Hc pf = some (.tup (pr fr)) ∧ Hc po = some (.tup (pr ot)) ∧ Hc p = some (.lst xs9) ∧ ∃ y1 y2, σ = [some (.ref a), some (.ref p), some (.int t), some (.int (1 + d4)), some (.ref pf), some (.ref po), y1, y2, none, none]) ?_ ?_ ?_ ?_
      · exact ⟨Same.refl _, by walk_at "hp", by walk_at "hp", by walk_at "hp", by walk_at "hp", by walk_at "hp", by walk_at "hp", by walk_at "hp", _, _, rfl⟩
      · rintro i σ H' _ ⟨s', e, _⟩
        exact SqL.of (s' _ _ e)
      · rintro i x σ H' hi ⟨s', etl, eta, etb, etc, epf, epo, ep, y1, y2, rfl⟩
        obtain ⟨tq, u, v, fu, fv, rfl, hq, hu, hv, b1, b2', b3, b4⟩ : ∃ (tq u v : Addr) (fu fv : Rat), x = .ref tq ∧ H' tq = some (.tup [.ref u, .ref v]) ∧ H' u = some (.tup (pr fu)) ∧ H' v = some (.tup (pr fv)) ∧ Sm 8000 fu.num ∧ Sm 8000 (fu.den : Int) ∧ Sm 8000 fv.num ∧ Sm 8000 (fv.den : Int) := by
          have hm := List.mem_of_getElem? hi
          simp only [List.mem_cons, List.not_mem_nil, or_false] at hm
          rcases hm with rfl | rfl | rfl
          · exact ⟨_, _, _, _, _, rfl, s' _ _ eta, s' _ _ epf, s' _ _ epo, sf1.mono (by decide), sf2.mono (by decide), k1.mono (by decide), k2.mono (by decide)⟩
          · exact ⟨_, _, _, _, _, rfl, s' _ _ etb, s' _ _ epo, s' _ _ epf, k1.mono (by decide), k2.mono (by decide), sf1.mono (by decide), sf2.mono (by decide)⟩
          · exact ⟨_, _, _, _, _, rfl, s' _ _ etc, s' _ _ epf, s' _ _ epf, sf1.mono (by decide), sf2.mono (by decide), sf1.mono (by decide), sf2.mono (by decide)⟩
        refine ⟨_, _, rfl, SqT.of hq, rfl, _, _, rfl, _, _, rfl, rfl, ?_⟩
        refine ⟨_, rfl, _, rfl, _, _, _, _, rfl, hu, hv, b1, b2', b3, b4, ?_⟩
        repeat' walk_at "g"
        refine ⟨_, _, rfl, fun H'' s'' => ?_⟩
        repeat' walk_at "g"
        refine ifF (by simp) ?_
        exact ⟨s'.trans s'', etl, eta, etb, etc, epf, epo, ep, _, _, rfl⟩
      · rintro σ H' ⟨s', etl, eta, etb, etc, epf, epo, ep, y1, y2, rfl⟩
        have epf' := s' _ _ epf
        have ep' := s' _ _ ep
        clear etl eta etb etc epo s' epf ep
        repeat' walk_at "g"
        refine ⟨_, _, _, _, rfl, epf', sf1.mono (by decide), sf2.mono (by decide), ep', st9, fun H10 ov xs10 f10 h10 st10 hno => ?_⟩
        repeat' walk_at "g"
        cases hno with
        | tup e ts n =>
          refine .inl ⟨_, _, rfl, e, ts, ?_⟩
          rw [n]
          repeat' walk_at "g"
          refine .inl ⟨_, _, rfl, e, ts, ?_⟩
          rw [isMo_of n]
          repeat' walk_at "g"
          intro ed ned
          repeat' walk_at "g"
          walk_at "dg"
          rename_i H11 d11 xs11 f11 h11 st11 d110 d118
          refine' ixP (fun v => Thing K H11 v ∧ isI v = false) (SqL.of ?h) d110 ?h1 ?al (fun iv hiv => ?_)
          case h => walk_at "hp"
          case h1 => exact d118
          case al =>
            intro v hv
            simp only [List.mem_cons, List.not_mem_nil, or_false] at hv
            rcases hv with rfl | rfl | rfl | rfl | rfl | rfl | rfl | rfl
            · exact ⟨.odd (.base .non) (by simp [others]) rfl, rfl⟩
            · exact ⟨.odd (.base (.bl _)) (by simp [others]) rfl, rfl⟩
            · exact ⟨.odd (.base (.bl _)) (by simp [others]) rfl, rfl⟩
            · exact ⟨.odd (.base (.str _)) (by simp [others]) rfl, rfl⟩
            · exact ⟨.odd (.base (.lst (by walk_at "hp"))) (by simp [others]) rfl, rfl⟩
            · exact ⟨.odd (.base (.tup (by walk_at "hp"))) (by simp [others]) rfl, rfl⟩
            · exact ⟨.odd (.base (.dK (by walk_at "hp"))) (by simp [others]) rfl, rfl⟩
            · exact ⟨.odd (.base (.str _)) (by simp [others]) rfl, rfl⟩
          obtain ⟨th, hni⟩ := hiv
          repeat' walk_at "g"
          refine ⟨_, _, rfl, th, .int _, .inl hni, fun H12 f12 => ⟨_, rfl, ?_⟩⟩
          refine ⟨_, rfl, _, rfl, _, _, rfl, .int _, th.keep (fun b o _ h => f12 b o h), .inr (.inl hni), fun H13 f13 => ?_⟩
          exact q _
        | odd ty mt =>
          refine .inr ⟨_, ty, mt, ?_⟩
          repeat' walk_at "g"
          refine .inr ⟨_, ty, mt, ?_⟩
          repeat' walk_at "g"
          intro ed ned
          repeat' walk_at "g"
          walk_at "dg"
          rename_i H11 d11 xs11 f11 h11 st11 d110 d118
          refine' ixP (fun v => Thing K H11 v ∧ isI v = false) (SqL.of ?h) d110 ?h1 ?al (fun iv hiv => ?_)
          case h => walk_at "hp"
          case h1 => exact d118
          case al =>
            intro v hv
            simp only [List.mem_cons, List.not_mem_nil, or_false] at hv
            rcases hv with rfl | rfl | rfl | rfl | rfl | rfl | rfl | rfl
            · exact ⟨.odd (.base .non) (by simp [others]) rfl, rfl⟩
            · exact ⟨.odd (.base (.bl _)) (by simp [others]) rfl, rfl⟩
            · exact ⟨.odd (.base (.bl _)) (by simp [others]) rfl, rfl⟩
            · exact ⟨.odd (.base (.str _)) (by simp [others]) rfl, rfl⟩
            · exact ⟨.odd (.base (.lst (by walk_at "hp"))) (by simp [others]) rfl, rfl⟩
            · exact ⟨.odd (.base (.tup (by walk_at "hp"))) (by simp [others]) rfl, rfl⟩
            · exact ⟨.odd (.base (.dK (by walk_at "hp"))) (by simp [others]) rfl, rfl⟩
            · exact ⟨.odd (.base (.str _)) (by simp [others]) rfl, rfl⟩
          obtain ⟨th, hni⟩ := hiv
          repeat' walk_at "g"
          refine ⟨_, _, rfl, th, .int _, .inl hni, fun H12 f12 => ⟨_, rfl, ?_⟩⟩
          refine ⟨_, rfl, _, rfl, _, _, rfl, .int _, th.keep (fun b o _ h => f12 b o h), .inr (.inl hni), fun H13 f13 => ?_⟩
          exact q _
    · have hb : b2 ≠ 0 := fun z => by rw [z] at c; cases c
      have sb : Sm 200 b2 := s2
      have hB := hp2
      have mB := m2
      have stB := st1
      obtain ⟨xsB, exB⟩ : ∃ xsB, xsB = xs1 := ⟨_, rfl⟩
      subst exB
      -- found
      repeat' walk_at "g"
      refine ⟨_, _, rfl, .int _, .int _, .inl ⟨_, _, rfl, rfl, hb, sb.mono (by decide), fun pf npf => ?_⟩⟩
      have npfH : H pf = none := mB.free npf
      have pfp : pf ≠ p := new_ne npf hB
      have sf1 := num_sm hb s1
      have sf2 := den_sm (t := t) hb sb
      have cr := divInt_cross (t := t) hb
      obtain ⟨fr, hfr⟩ : ∃ fr, fr = Rat.divInt t b2 := ⟨_, rfl⟩
      rw [← hfr] at sf1 sf2 cr
      rw [← hfr]
      repeat' walk_at "g"
      refine ⟨_, _, _, _, rfl, upd_same, cr, sf1.mono (by decide), sf2.mono (by decide), s1.mono (by decide), sb.mono (by decide), fun H5 f5 => ?_⟩
      repeat' walk_at "g"
      refine ⟨_, _, rfl, .int _, .int _, .inl ⟨_, _, rfl, rfl, hb, sb.mono (by decide), fun pg npg => ?_⟩⟩
      rw [← hfr]
      repeat' walk_at "g"
      have hpf5 : H5 pf = some (.tup (pr fr)) := by walk_at "hp"
      have hst5 : H5 p = some (.lst xsB) := by walk_at "hp"
      have m5 : Same H H5 := by walk_at "fr"
      refine neqIntsT (ns := [fr.num, (fr.den : Int)]) (ms := [fr.num, (fr.den : Int)]) (SqT.of upd_same) (SqT.of (upd_old npg hpf5)) ?_
      rw [decide_eq_true rfl]
      repeat' walk_at "g"
      -- fraction(first)
      refine ⟨_, _, rfl, .int _, .int _, .inl ⟨_, _, rfl, rfl, by decide, by unfold Sm; decide, fun ph nph => ?_⟩⟩
      have g1 := num_sm (b := 1) (by decide) s1
      have g2 : Sm 8000 ((Rat.divInt t 1).den : Int) := den_sm (t := t) (b := 1) (by decide) (by unfold Sm; decide)
      have g3 := divInt_cross (t := t) (b := 1) (by decide)
      have g4 : (Rat.divInt t 1).den = 1 := by simp [Rat.den_divInt]
      obtain ⟨f1r, hf1r⟩ : ∃ fr, fr = Rat.divInt t 1 := ⟨_, rfl⟩
      rw [← hf1r] at g1 g2 g3 g4
      rw [← hf1r]
      repeat' walk_at "g"
      refine ⟨_, _, _, _, rfl, upd_same, g3, g1.mono (by decide), g2, s1.mono (by decide), by unfold Sm; decide, fun H6 f6 => ?_⟩
      repeat' walk_at "g"
      refine ⟨_, _, rfl, .int _, .int _, .inl ⟨_, _, rfl, rfl, by decide, by unfold Sm; decide, fun pi npi => ?_⟩⟩
      rw [← hf1r]
      repeat' walk_at "g"
      refine ifF (by rw [g4]; rfl) ?_
      have hpf6 : H6 pf = some (.tup (pr fr)) := by walk_at "hp"
      have hst6 : H6 p = some (.lst xsB) := by walk_at "hp"
      have m6 : Same H H6 := by walk_at "fr"
      have m7 : Same H (upd H6 pi (.tup (pr f1r))) := by walk_at "fr"
      clear f5 f6 m5 m6 hst5 hpf5
      -- other
      repeat' walk_at "g"
      refine ⟨_, _, _, rfl, m7.seq hS, by decide, fun n2 _ => ?_⟩
      repeat' walk_at "g"
      rename_i p3 np3
      have hst7 : upd H6 pi (.tup (pr f1r)) p = some (.lst xsB) := by walk_at "hp"
      have hpf7 : upd H6 pi (.tup (pr f1r)) pf = some (.tup (pr fr)) := by walk_at "hp"
      have p3p : p3 ≠ p := new_ne np3 hst7
      have p3f : p3 ≠ pf := new_ne np3 hpf7
      have np3H : H p3 = none := m7.free np3
      refine ⟨_, _, rfl, upd_same, .inl ⟨_, rfl⟩, fun H8 t8 xs8 f8 h8 st8 s8 => ?_⟩
      have hst8 : H8 p = some (.lst xsB) := by walk_at "hp"
      have hpf8 : H8 pf = some (.tup (pr fr)) := by walk_at "hp"
      have m8 : Same H H8 := by walk_at "fr"
      clear f8 m7 hst7 hpf7 hst6 hpf6 np3 h8 st8
      repeat' walk_at "g"
      refine ⟨_, _, _, rfl, hst8, stB, by decide, by decide, fun H9 d9 xs9 f9 h9 st9 d90 d91 => ?_⟩
      have hpf9 : H9 pf = some (.tup (pr fr)) := by walk_at "hp"
      have m9 : Same H H9 := by walk_at "fr"
      have e6 : (10 : Int) ^ (Int.toNat 6) = 1000000 := by decide
      rw [e6] at d91
      have ho : 1 + d9 ≠ 0 := by omega
      have so : Sm 200 (1 + d9) := by unfold Sm; omega
      clear f9 hst8 hpf8 m8
      repeat' walk_at "g"
      refine ⟨_, _, rfl, .int _, .int _, .inl ⟨_, _, rfl, rfl, ho, so.mono (by decide), fun po npo => ?_⟩⟩
      have k1 := num_sm ho s8
      have k2 := den_sm (t := t8) ho so
      obtain ⟨ot, hot⟩ : ∃ fr, fr = Rat.divInt t8 (1 + d9) := ⟨_, rfl⟩
      rw [← hot] at k1 k2
      rw [← hot]
      repeat' walk_at "g"
      rename_i ta nta tb ntb tc ntc tl ntl
      have pop : po ≠ p := new_ne npo h9
      refine ⟨⟨_, SqL.of upd_same⟩, ?_⟩
      refine forL (K := K) (a := tl) (xs := [.ref ta, .ref tb, .ref tc]) (fun Hc _ σ H' => Same Hc H' ∧ Hc tl = some (.lst [.ref ta, .ref tb, .ref tc]) ∧ Hc ta = some (.tup [.ref pf, .ref po]) ∧ Hc tb = some (.tup [.ref po, .ref pf]) ∧ Hc tc = some (.tup [.ref pf, .ref pf]) ∧ Hc pf = some (.tup (pr fr)) ∧ Hc po = some (.tup (pr ot)) ∧ Hc p = some (.lst xs9) ∧ ∃ y1 y2, σ = [some (.ref a), some (.ref p), some (.int t), some (.int b2), some (.ref pf), some (.ref po), y1, y2, none, none]) ?_ ?_ ?_ ?_
      · exact ⟨Same.refl _, by walk_at "hp", by walk_at "hp", by walk_at "hp", by walk_at "hp", by walk_at "hp", by walk_at "hp", by walk_at "hp", _, _, rfl⟩
      · rintro i σ H' _ ⟨s', e, _⟩
        exact SqL.of (s' _ _ e)
      · rintro i x σ H' hi ⟨s', etl, eta, etb, etc, epf, epo, ep, y1, y2, rfl⟩
        obtain ⟨tq, u, v, fu, fv, rfl, hq, hu, hv, b1, b2', b3, b4⟩ : ∃ (tq u v : Addr) (fu fv : Rat), x = .ref tq ∧ H' tq = some (.tup [.ref u, .ref v]) ∧ H' u = some (.tup (pr fu)) ∧ H' v = some (.tup (pr fv)) ∧ Sm 8000 fu.num ∧ Sm 8000 (fu.den : Int) ∧ Sm 8000 fv.num ∧ Sm 8000 (fv.den : Int) := by
          have hm := List.mem_of_getElem? hi
          simp only [List.mem_cons, List.not_mem_nil, or_false] at hm
          rcases hm with rfl | rfl | rfl
          · exact ⟨_, _, _, _, _, rfl, s' _ _ eta, s' _ _ epf, s' _ _ epo, sf1.mono (by decide), sf2.mono (by decide), k1.mono (by decide), k2.mono (by decide)⟩
          · exact ⟨_, _, _, _, _, rfl, s' _ _ etb, s' _ _ epo, s' _ _ epf, k1.mono (by decide), k2.mono (by decide), sf1.mono (by decide), sf2.mono (by decide)⟩
          · exact ⟨_, _, _, _, _, rfl, s' _ _ etc, s' _ _ epf, s' _ _ epf, sf1.mono (by decide), sf2.mono (by decide), sf1.mono (by decide), sf2.mono (by decide)⟩
        refine ⟨_, _, rfl, SqT.of hq, rfl, _, _, rfl, _, _, rfl, rfl, ?_⟩
        refine ⟨_, rfl, _, rfl, _, _, _, _, rfl, hu, hv, b1, b2', b3, b4, ?_⟩
        repeat' walk_at "g"
        refine ⟨_, _, rfl, fun H'' s'' => ?_⟩
        repeat' walk_at "g"
        refine ifF (by simp) ?_
        exact ⟨s'.trans s'', etl, eta, etb, etc, epf, epo, ep, _, _, rfl⟩
      · rintro σ H' ⟨s', etl, eta, etb, etc, epf, epo, ep, y1, y2, rfl⟩
        have epf' := s' _ _ epf
        have ep' := s' _ _ ep
        clear etl eta etb etc epo s' epf ep
        repeat' walk_at "g"
        refine ⟨_, _, _, _, rfl, epf', sf1.mono (by decide), sf2.mono (by decide), ep', st9, fun H10 ov xs10 f10 h10 st10 hno => ?_⟩
        repeat' walk_at "g"
        cases hno with
        | tup e ts n =>
          refine .inl ⟨_, _, rfl, e, ts, ?_⟩
          rw [n]
          repeat' walk_at "g"
          refine .inl ⟨_, _, rfl, e, ts, ?_⟩
          rw [isMo_of n]
          repeat' walk_at "g"
          intro ed ned
          repeat' walk_at "g"
          walk_at "dg"
          rename_i H11 d11 xs11 f11 h11 st11 d110 d118
          refine' ixP (fun v => Thing K H11 v ∧ isI v = false) (SqL.of ?h) d110 ?h1 ?al (fun iv hiv => ?_)
          case h => walk_at "hp"
          case h1 => exact d118
          case al =>
            intro v hv
            simp only [List.mem_cons, List.not_mem_nil, or_false] at hv
            rcases hv with rfl | rfl | rfl | rfl | rfl | rfl | rfl | rfl
            · exact ⟨.odd (.base .non) (by simp [others]) rfl, rfl⟩
            · exact ⟨.odd (.base (.bl _)) (by simp [others]) rfl, rfl⟩
            · exact ⟨.odd (.base (.bl _)) (by simp [others]) rfl, rfl⟩
            · exact ⟨.odd (.base (.str _)) (by simp [others]) rfl, rfl⟩
            · exact ⟨.odd (.base (.lst (by walk_at "hp"))) (by simp [others]) rfl, rfl⟩
            · exact ⟨.odd (.base (.tup (by walk_at "hp"))) (by simp [others]) rfl, rfl⟩
            · exact ⟨.odd (.base (.dK (by walk_at "hp"))) (by simp [others]) rfl, rfl⟩
            · exact ⟨.odd (.base (.str _)) (by simp [others]) rfl, rfl⟩
          obtain ⟨th, hni⟩ := hiv
          repeat' walk_at "g"
          refine ⟨_, _, rfl, th, .int _, .inl hni, fun H12 f12 => ⟨_, rfl, ?_⟩⟩
          refine ⟨_, rfl, _, rfl, _, _, rfl, .int _, th.keep (fun b o _ h => f12 b o h), .inr (.inl hni), fun H13 f13 => ?_⟩
          exact q _
        | odd ty mt =>
          refine .inr ⟨_, ty, mt, ?_⟩
          repeat' walk_at "g"
          refine .inr ⟨_, ty, mt, ?_⟩
          repeat' walk_at "g"
          intro ed ned
          repeat' walk_at "g"
          walk_at "dg"
          rename_i H11 d11 xs11 f11 h11 st11 d110 d118
          refine' ixP (fun v => Thing K H11 v ∧ isI v = false) (SqL.of ?h) d110 ?h1 ?al (fun iv hiv => ?_)
          case h => walk_at "hp"
          case h1 => exact d118
          case al =>
            intro v hv
            simp only [List.mem_cons, List.not_mem_nil, or_false] at hv
            rcases hv with rfl | rfl | rfl | rfl | rfl | rfl | rfl | rfl
            · exact ⟨.odd (.base .non) (by simp [others]) rfl, rfl⟩
            · exact ⟨.odd (.base (.bl _)) (by simp [others]) rfl, rfl⟩
            · exact ⟨.odd (.base (.bl _)) (by simp [others]) rfl, rfl⟩
            · exact ⟨.odd (.base (.str _)) (by simp [others]) rfl, rfl⟩
            · exact ⟨.odd (.base (.lst (by walk_at "hp"))) (by simp [others]) rfl, rfl⟩
            · exact ⟨.odd (.base (.tup (by walk_at "hp"))) (by simp [others]) rfl, rfl⟩
            · exact ⟨.odd (.base (.dK (by walk_at "hp"))) (by simp [others]) rfl, rfl⟩
            · exact ⟨.odd (.base (.str _)) (by simp [others]) rfl, rfl⟩
          obtain ⟨th, hni⟩ := hiv
          repeat' walk_at "g"
          refine ⟨_, _, rfl, th, .int _, .inl hni, fun H12 f12 => ⟨_, rfl, ?_⟩⟩
          refine ⟨_, rfl, _, rfl, _, _, rfl, .int _, th.keep (fun b o _ h => f12 b o h), .inr (.inl hni), fun H13 f13 => ?_⟩
          exact q _
end
theorem all_mk {l : PySem.W.OpenLaw} {w : World} {K : PySem.W.Frag} {h : Heap} {mg : Str → Option Value} {fa : Addr} (X : K.In h) (G : h.Ns mainGlobals mg) (hfa : mg "law" = some (.ref fa))
    {f0 : Addr} {od0 an0 : Option Addr} {sl0 : Array (Option Value)} {oc0 kV0 dc0 pm0 cd0 ct0 : Value}
    (a0 : PySem.W.nsIn K mainGlobals "is_number" = some (some (.ref f0))) (l0 : K.lookup f0 = some ⟨oc0, od0, .func (PySem.W.fnOf "is_number" "is_number" (defArgs s_is_number) (defBody s_is_number) (defScope s_is_number) .none kV0 dc0 pm0 an0 cd0 ct0), sl0⟩) (c0 : PySem.W.codeIn K cd0 "is_number" = true) (k0 : PySem.W.keepIn K (.ref f0) = true)
    {f1 : Addr} {od1 an1 : Option Addr} {sl1 : Array (Option Value)} {oc1 kV1 dc1 pm1 cd1 ct1 : Value}
    (a1 : PySem.W.nsIn K mainGlobals "common_divisor" = some (some (.ref f1))) (l1 : K.lookup f1 = some ⟨oc1, od1, .func (PySem.W.fnOf "common_divisor" "common_divisor" (defArgs s_common_divisor) (defBody s_common_divisor) (defScope s_common_divisor) .none kV1 dc1 pm1 an1 cd1 ct1), sl1⟩) (c1 : PySem.W.codeIn K cd1 "common_divisor" = true) (k1 : PySem.W.keepIn K (.ref f1) = true)
    {f2 : Addr} {od2 an2 : Option Addr} {sl2 : Array (Option Value)} {oc2 kV2 dc2 pm2 cd2 ct2 : Value}
    {dT2 : Addr} {do2 : Obj} {dn2 : Nat}
    {dt2_0 : Tok}
    (a2 : PySem.W.nsIn K mainGlobals "fraction" = some (some (.ref f2))) (l2 : K.lookup f2 = some ⟨oc2, od2, .func (PySem.W.fnOf "fraction" "fraction" (defArgs s_fraction) (defBody s_fraction) (defScope s_fraction) (.ref dT2) kV2 dc2 pm2 an2 cd2 ct2), sl2⟩) (c2 : PySem.W.codeIn K cd2 "fraction" = true) (k2 : PySem.W.keepIn K (.ref f2) = true)
    (e2 : K.lookup dT2 = some do2) (q2 : do2.data = .seq #[.int 1 dt2_0] dn2)
    {f3 : Addr} {od3 an3 : Option Addr} {sl3 : Array (Option Value)} {oc3 kV3 dc3 pm3 cd3 ct3 : Value}
    (a3 : PySem.W.nsIn K mainGlobals "is_fraction" = some (some (.ref f3))) (l3 : K.lookup f3 = some ⟨oc3, od3, .func (PySem.W.fnOf "is_fraction" "is_fraction" (defArgs s_is_fraction) (defBody s_is_fraction) (defScope s_is_fraction) .none kV3 dc3 pm3 an3 cd3 ct3), sl3⟩) (c3 : PySem.W.codeIn K cd3 "is_fraction" = true) (k3 : PySem.W.keepIn K (.ref f3) = true)
    {f4 : Addr} {od4 an4 : Option Addr} {sl4 : Array (Option Value)} {oc4 kV4 dc4 pm4 cd4 ct4 : Value}
    (a4 : PySem.W.nsIn K mainGlobals "is_moment" = some (some (.ref f4))) (l4 : K.lookup f4 = some ⟨oc4, od4, .func (PySem.W.fnOf "is_moment" "is_moment" (defArgs s_is_moment) (defBody s_is_moment) (defScope s_is_moment) .none kV4 dc4 pm4 an4 cd4 ct4), sl4⟩) (c4 : PySem.W.codeIn K cd4 "is_moment" = true) (k4 : PySem.W.keepIn K (.ref f4) = true)
    {f5 : Addr} {od5 an5 : Option Addr} {sl5 : Array (Option Value)} {oc5 kV5 dc5 pm5 cd5 ct5 : Value}
    (a5 : PySem.W.nsIn K mainGlobals "less" = some (some (.ref f5))) (l5 : K.lookup f5 = some ⟨oc5, od5, .func (PySem.W.fnOf "less" "less" (defArgs s_less) (defBody s_less) (defScope s_less) .none kV5 dc5 pm5 an5 cd5 ct5), sl5⟩) (c5 : PySem.W.codeIn K cd5 "less" = true) (k5 : PySem.W.keepIn K (.ref f5) = true)
    {f6 : Addr} {od6 an6 : Option Addr} {sl6 : Array (Option Value)} {oc6 kV6 dc6 pm6 cd6 ct6 : Value}
    (a6 : PySem.W.nsIn K mainGlobals "floor" = some (some (.ref f6))) (l6 : K.lookup f6 = some ⟨oc6, od6, .func (PySem.W.fnOf "floor" "floor" (defArgs s_floor) (defBody s_floor) (defScope s_floor) .none kV6 dc6 pm6 an6 cd6 ct6), sl6⟩) (c6 : PySem.W.codeIn K cd6 "floor" = true) (k6 : PySem.W.keepIn K (.ref f6) = true)
    {f7 : Addr} {od7 an7 : Option Addr} {sl7 : Array (Option Value)} {oc7 kV7 dc7 pm7 cd7 ct7 : Value}
    (a7 : PySem.W.nsIn K mainGlobals "_law_cell_at" = some (some (.ref f7))) (l7 : K.lookup f7 = some ⟨oc7, od7, .func (PySem.W.fnOf "_law_cell_at" "_law_cell_at" (defArgs s_l_cell_at) (defBody s_l_cell_at) (defScope s_l_cell_at) .none kV7 dc7 pm7 an7 cd7 ct7), sl7⟩) (c7 : PySem.W.codeIn K cd7 "_law_cell_at" = true) (k7 : PySem.W.keepIn K (.ref f7) = true)
    {f8 : Addr} {od8 an8 : Option Addr} {sl8 : Array (Option Value)} {oc8 kV8 dc8 pm8 cd8 ct8 : Value}
    (a8 : PySem.W.nsIn K mainGlobals "_law_digit" = some (some (.ref f8))) (l8 : K.lookup f8 = some ⟨oc8, od8, .func (PySem.W.fnOf "_law_digit" "_law_digit" (defArgs s_l_digit) (defBody s_l_digit) (defScope s_l_digit) .none kV8 dc8 pm8 an8 cd8 ct8), sl8⟩) (c8 : PySem.W.codeIn K cd8 "_law_digit" = true) (k8 : PySem.W.keepIn K (.ref f8) = true)
    {f9 : Addr} {od9 an9 : Option Addr} {sl9 : Array (Option Value)} {oc9 kV9 dc9 pm9 cd9 ct9 : Value}
    (a9 : PySem.W.nsIn K mainGlobals "_law_great" = some (some (.ref f9))) (l9 : K.lookup f9 = some ⟨oc9, od9, .func (PySem.W.fnOf "_law_great" "_law_great" (defArgs s_l_great) (defBody s_l_great) (defScope s_l_great) .none kV9 dc9 pm9 an9 cd9 ct9), sl9⟩) (c9 : PySem.W.codeIn K cd9 "_law_great" = true) (k9 : PySem.W.keepIn K (.ref f9) = true)
    {f10 : Addr} {od10 an10 : Option Addr} {sl10 : Array (Option Value)} {oc10 kV10 dc10 pm10 cd10 ct10 : Value}
    (a10 : PySem.W.nsIn K mainGlobals "_law_number" = some (some (.ref f10))) (l10 : K.lookup f10 = some ⟨oc10, od10, .func (PySem.W.fnOf "_law_number" "_law_number" (defArgs s_l_number) (defBody s_l_number) (defScope s_l_number) .none kV10 dc10 pm10 an10 cd10 ct10), sl10⟩) (c10 : PySem.W.codeIn K cd10 "_law_number" = true) (k10 : PySem.W.keepIn K (.ref f10) = true)
    {f11 : Addr} {od11 an11 : Option Addr} {sl11 : Array (Option Value)} {oc11 kV11 dc11 pm11 cd11 ct11 : Value}
    (a11 : PySem.W.nsIn K mainGlobals "_law_shared" = some (some (.ref f11))) (l11 : K.lookup f11 = some ⟨oc11, od11, .func (PySem.W.fnOf "_law_shared" "_law_shared" (defArgs s_l_shared) (defBody s_l_shared) (defScope s_l_shared) .none kV11 dc11 pm11 an11 cd11 ct11), sl11⟩) (c11 : PySem.W.codeIn K cd11 "_law_shared" = true) (k11 : PySem.W.keepIn K (.ref f11) = true)
    {f12 : Addr} {od12 an12 : Option Addr} {sl12 : Array (Option Value)} {oc12 kV12 dc12 pm12 cd12 ct12 : Value}
    (a12 : PySem.W.nsIn K mainGlobals "_law_whole" = some (some (.ref f12))) (l12 : K.lookup f12 = some ⟨oc12, od12, .func (PySem.W.fnOf "_law_whole" "_law_whole" (defArgs s_l_whole) (defBody s_l_whole) (defScope s_l_whole) .none kV12 dc12 pm12 an12 cd12 ct12), sl12⟩) (c12 : PySem.W.codeIn K cd12 "_law_whole" = true) (k12 : PySem.W.keepIn K (.ref f12) = true)
    {f13 : Addr} {od13 an13 : Option Addr} {sl13 : Array (Option Value)} {oc13 kV13 dc13 pm13 cd13 ct13 : Value}
    (a13 : PySem.W.nsIn K mainGlobals "_law_truth" = some (some (.ref f13))) (l13 : K.lookup f13 = some ⟨oc13, od13, .func (PySem.W.fnOf "_law_truth" "_law_truth" (defArgs s_l_truth) (defBody s_l_truth) (defScope s_l_truth) .none kV13 dc13 pm13 an13 cd13 ct13), sl13⟩) (c13 : PySem.W.codeIn K cd13 "_law_truth" = true) (k13 : PySem.W.keepIn K (.ref f13) = true)
    {f14 : Addr} {od14 an14 : Option Addr} {sl14 : Array (Option Value)} {oc14 kV14 dc14 pm14 cd14 ct14 : Value}
    (a14 : PySem.W.nsIn K mainGlobals "_law_lowest" = some (some (.ref f14))) (l14 : K.lookup f14 = some ⟨oc14, od14, .func (PySem.W.fnOf "_law_lowest" "_law_lowest" (defArgs s_l_lowest) (defBody s_l_lowest) (defScope s_l_lowest) .none kV14 dc14 pm14 an14 cd14 ct14), sl14⟩) (c14 : PySem.W.codeIn K cd14 "_law_lowest" = true) (k14 : PySem.W.keepIn K (.ref f14) = true)
    {f15 : Addr} {od15 an15 : Option Addr} {sl15 : Array (Option Value)} {oc15 kV15 dc15 pm15 cd15 ct15 : Value}
    (a15 : PySem.W.nsIn K mainGlobals "_law_refused" = some (some (.ref f15))) (l15 : K.lookup f15 = some ⟨oc15, od15, .func (PySem.W.fnOf "_law_refused" "_law_refused" (defArgs s_l_refused) (defBody s_l_refused) (defScope s_l_refused) .none kV15 dc15 pm15 an15 cd15 ct15), sl15⟩) (c15 : PySem.W.codeIn K cd15 "_law_refused" = true) (k15 : PySem.W.keepIn K (.ref f15) = true)
    {f16 : Addr} {od16 an16 : Option Addr} {sl16 : Array (Option Value)} {oc16 kV16 dc16 pm16 cd16 ct16 : Value}
    (a16 : PySem.W.nsIn K mainGlobals "_law_written_otherwise" = some (some (.ref f16))) (l16 : K.lookup f16 = some ⟨oc16, od16, .func (PySem.W.fnOf "_law_written_otherwise" "_law_written_otherwise" (defArgs s_l_written_otherwise) (defBody s_l_written_otherwise) (defScope s_l_written_otherwise) .none kV16 dc16 pm16 an16 cd16 ct16), sl16⟩) (c16 : PySem.W.codeIn K cd16 "_law_written_otherwise" = true) (k16 : PySem.W.keepIn K (.ref f16) = true)
    {f17 : Addr} {od17 an17 : Option Addr} {sl17 : Array (Option Value)} {oc17 kV17 dc17 pm17 cd17 ct17 : Value}
    (a17 : PySem.W.nsIn K mainGlobals "_law_right" = some (some (.ref f17))) (l17 : K.lookup f17 = some ⟨oc17, od17, .func (PySem.W.fnOf "_law_right" "_law_right" (defArgs s_l_right) (defBody s_l_right) (defScope s_l_right) .none kV17 dc17 pm17 an17 cd17 ct17), sl17⟩) (c17 : PySem.W.codeIn K cd17 "_law_right" = true) (k17 : PySem.W.keepIn K (.ref f17) = true)
    {f18 : Addr} {od18 an18 : Option Addr} {sl18 : Array (Option Value)} {oc18 kV18 dc18 pm18 cd18 ct18 : Value}
    (a18 : PySem.W.nsIn K mainGlobals "law" = some (some (.ref f18))) (l18 : K.lookup f18 = some ⟨oc18, od18, .func (PySem.W.fnOf "law" "law" (defArgs s_law) (defBody s_law) (defScope s_law) .none kV18 dc18 pm18 an18 cd18 ct18), sl18⟩) (c18 : PySem.W.codeIn K cd18 "law" = true) (k18 : PySem.W.keepIn K (.ref f18) = true)
    (z_ValueError : PySem.W.nsIn K mainGlobals "ValueError" = some none)
    (z_abs : PySem.W.nsIn K mainGlobals "abs" = some none)
    (z_bool : PySem.W.nsIn K mainGlobals "bool" = some none)
    (z_int : PySem.W.nsIn K mainGlobals "int" = some none)
    (z_isinstance : PySem.W.nsIn K mainGlobals "isinstance" = some none)
    (z_len : PySem.W.nsIn K mainGlobals "len" = some none)
    (z_range : PySem.W.nsIn K mainGlobals "range" = some none)
    (z_str : PySem.W.nsIn K mainGlobals "str" = some none)
    (z_tuple : PySem.W.nsIn K mainGlobals "tuple" = some none)
    {C_ScrollError : Addr} (g_ScrollError : PySem.W.nsIn K mainGlobals "ScrollError" = some (some (.ref C_ScrollError)))
    {C_NoFraction : Addr} (g_NoFraction : PySem.W.nsIn K mainGlobals "NoFraction" = some (some (.ref C_NoFraction)))
    (x_NoFraction : PySem.W.excIn K C_NoFraction [.type "ValueError", .type "Exception", .type "BaseException", .type "object"] "ValueError.__new__" = true) (kc_NoFraction : PySem.W.keepIn K (.ref C_NoFraction) = true) (bb_NoFraction : PySem.W.subIn K (.ref C_NoFraction) (.type "BaseException") = some true) (t_NoFraction : PySem.W.typeIn K (.ref C_NoFraction) = some (.type "type"))
    (xa_NoFraction : PySem.W.findIn K (.ref C_NoFraction) "__getattribute__" = some (some (.builtin "BaseException.__getattribute__"))) (xb_NoFraction : PySem.W.findIn K (.ref C_NoFraction) "__getattr__" = some none) (xc_NoFraction : PySem.W.hasDictIn K C_NoFraction = true) (xd_NoFraction : PySem.W.findIn K (.ref C_NoFraction) "__class__" = some (some (.builtin "object.__class__")))
    (xe_NoFraction : PySem.W.specialIn K (.builtin "object.__class__") "__get__" = some (some (.builtin "getset_descriptor.__get__"))) (xf_NoFraction : PySem.W.takesIn K (.builtin "object.__class__") = some true) (xg_NoFraction : PySem.W.mroIn K C_NoFraction (.type "object") = some true)
    (sb_NoFraction_ScrollError : PySem.W.subIn K (.ref C_NoFraction) (.ref C_ScrollError) = some true) (bs_NoFraction_ScrollError : PySem.W.subIn K (.ref C_ScrollError) (.type "BaseException") = some true) (ts_NoFraction_ScrollError : PySem.W.typeIn K (.ref C_ScrollError) = some (.type "type")) (is_NoFraction_ScrollError : PySem.W.isClsIn K C_ScrollError = true)
    (io_NoFraction_NoFraction : PySem.W.kitOne K (.ref C_NoFraction) (.ref C_NoFraction) = some true)
    (io_NoFraction_ValueError : PySem.W.kitOne K (.ref C_NoFraction) (.type "ValueError") = some true)
    : ∃ fd : FuncData, (∀ (s : Shared) (v : Value), BindsTo s fd ⟨[v], []⟩ [("_law_script", v)]) ∧ ∀ base : Heap, K.In base → base.Ns mainGlobals mg → FnOk l.prog w K mg base CX0 5 fa fd ["_law_script"] (spLaw K) := by
  have e := hfa.symm.trans (PySem.W.mg_of X G a18)
  cases e
  have F0 := fun_mk (st := s_is_number) l0 c0 k0
  have F1 := fun_mk (st := s_common_divisor) l1 c1 k1
  have F2 : FunD K "fraction" "fraction" (defArgs s_fraction) (defBody s_fraction) (defScope s_fraction) [V.int 1] [] f2 _ := ⟨⟨_, _, _, _, _, _, _, _, _, _, rfl, l2, c2, .inr ⟨(fun z => nomatch z), _, _, [.int 1 dt2_0], _, rfl, e2, q2, .cons ⟨_, rfl⟩ (.nil)⟩, .inl rfl⟩, k2⟩
  have F3 := fun_mk (st := s_is_fraction) l3 c3 k3
  have F4 := fun_mk (st := s_is_moment) l4 c4 k4
  have F5 := fun_mk (st := s_less) l5 c5 k5
  have F6 := fun_mk (st := s_floor) l6 c6 k6
  have F7 := fun_mk (st := s_l_cell_at) l7 c7 k7
  have F8 := fun_mk (st := s_l_digit) l8 c8 k8
  have F9 := fun_mk (st := s_l_great) l9 c9 k9
  have F10 := fun_mk (st := s_l_number) l10 c10 k10
  have F11 := fun_mk (st := s_l_shared) l11 c11 k11
  have F12 := fun_mk (st := s_l_whole) l12 c12 k12
  have F13 := fun_mk (st := s_l_truth) l13 c13 k13
  have F14 := fun_mk (st := s_l_lowest) l14 c14 k14
  have F15 := fun_mk (st := s_l_refused) l15 c15 k15
  have F16 := fun_mk (st := s_l_written_otherwise) l16 c16 k16
  have F17 := fun_mk (st := s_l_right) l17 c17 k17
  have F18 := fun_mk (st := s_law) l18 c18 k18
  obtain ⟨ds2_1, v2_1, b2_1⟩ := F2.binds1 (ps := ["top", "bottom"]) 1 0 (fun z => nomatch z) rfl (fun T kV doc pm an cdv ct us its h1 h2 => match us, its, h1, h2 with | [_], [_], _, _ => ⟨_, rfl, rfl⟩)
  have b0 := F0.binds (ps := ["thing"]) fun _ _ _ _ _ _ us hl => match us, hl with | [_], _ => rfl
  have b1 := F1.binds (ps := ["one", "other"]) fun _ _ _ _ _ _ us hl => match us, hl with | [_, _], _ => rfl
  have b2 : Binds K _ ["top", "bottom"] [] := bindsAll (F := F2) (ps := ["top", "bottom"]) (fun T kV doc pm an cdv ct us its h1 h2 => match us, its, h1, h2 with | [_, _], [_], _, _ => ⟨_, rfl, rfl⟩) (fun z => nomatch z)
  have b3 := F3.binds (ps := ["thing"]) fun _ _ _ _ _ _ us hl => match us, hl with | [_], _ => rfl
  have b4 := F4.binds (ps := ["thing"]) fun _ _ _ _ _ _ us hl => match us, hl with | [_], _ => rfl
  have b5 := F5.binds (ps := ["one", "other"]) fun _ _ _ _ _ _ us hl => match us, hl with | [_, _], _ => rfl
  have b6 := F6.binds (ps := ["one"]) fun _ _ _ _ _ _ us hl => match us, hl with | [_], _ => rfl
  have b7 := F7.binds (ps := ["_law_script", "_law_k"]) fun _ _ _ _ _ _ us hl => match us, hl with | [_, _], _ => rfl
  have b8 := F8.binds (ps := ["_law_state", "_law_base"]) fun _ _ _ _ _ _ us hl => match us, hl with | [_, _], _ => rfl
  have b9 := F9.binds (ps := ["_law_state"]) fun _ _ _ _ _ _ us hl => match us, hl with | [_], _ => rfl
  have b10 := F10.binds (ps := ["_law_state"]) fun _ _ _ _ _ _ us hl => match us, hl with | [_], _ => rfl
  have b11 := F11.binds (ps := ["_law_one", "_law_other"]) fun _ _ _ _ _ _ us hl => match us, hl with | [_, _], _ => rfl
  have b12 := F12.binds (ps := ["_law_thing"]) fun _ _ _ _ _ _ us hl => match us, hl with | [_], _ => rfl
  have b13 := F13.binds (ps := ["_law_found", "_law_due"]) fun _ _ _ _ _ _ us hl => match us, hl with | [_, _], _ => rfl
  have b14 := F14.binds (ps := ["_law_found"]) fun _ _ _ _ _ _ us hl => match us, hl with | [_], _ => rfl
  have b15 := F15.binds (ps := ["_law_first", "_law_second"]) fun _ _ _ _ _ _ us hl => match us, hl with | [_, _], _ => rfl
  have b16 := F16.binds (ps := ["_law_found", "_law_state"]) fun _ _ _ _ _ _ us hl => match us, hl with | [_, _], _ => rfl
  have b17 := F17.binds (ps := ["_law_found", "_law_first", "_law_second"]) fun _ _ _ _ _ _ us hl => match us, hl with | [_, _, _], _ => rfl
  have b18 := F18.binds (ps := ["_law_script"]) fun _ _ _ _ _ _ us hl => match us, hl with | [_], _ => rfl
  have kb_fraction_bottom_top := kbAllD (F := F2) (ps := ["top", "bottom"]) (n := 0) (ks := ["bottom", "top"]) (g := fun us ws => kg_fraction_bottom_top us ws) (fun T kV doc pm an cdv ct us its ws h1 h2 h3 => match us, its, ws, h1, h2, h3 with | [], [_], [_, _], _, _, _ => ⟨_, rfl, rfl⟩) (fun z => nomatch z) (fun ru r => by
    cases ru with
    | cons _ _ => exact .nil
    | nil =>
      cases r with
      | nil => exact .nil
      | cons w0 r =>
        cases r with
        | nil => exact .nil
        | cons w1 r =>
          cases r with
          | nil => exact .cons w1 (.cons w0 (.nil))
          | cons _ _ => exact .nil)
  exact ⟨_, fun s v => .of_eq rfl, fun base _ _ => ok_law { a_is_number := _, d_is_number := _, F_is_number := F0, g_is_number := PySem.W.mg_of X G a0, b_is_number := b0, a_common_divisor := _, d_common_divisor := _, F_common_divisor := F1, g_common_divisor := PySem.W.mg_of X G a1, b_common_divisor := b1, a_fraction := _, d_fraction := _, F_fraction := F2, g_fraction := PySem.W.mg_of X G a2, b_fraction := b2, a_is_fraction := _, d_is_fraction := _, F_is_fraction := F3, g_is_fraction := PySem.W.mg_of X G a3, b_is_fraction := b3, a_is_moment := _, d_is_moment := _, F_is_moment := F4, g_is_moment := PySem.W.mg_of X G a4, b_is_moment := b4, a_less := _, d_less := _, F_less := F5, g_less := PySem.W.mg_of X G a5, b_less := b5, a_floor := _, d_floor := _, F_floor := F6, g_floor := PySem.W.mg_of X G a6, b_floor := b6, a_l_cell_at := _, d_l_cell_at := _, F_l_cell_at := F7, g_l_cell_at := PySem.W.mg_of X G a7, b_l_cell_at := b7, a_l_digit := _, d_l_digit := _, F_l_digit := F8, g_l_digit := PySem.W.mg_of X G a8, b_l_digit := b8, a_l_great := _, d_l_great := _, F_l_great := F9, g_l_great := PySem.W.mg_of X G a9, b_l_great := b9, a_l_number := _, d_l_number := _, F_l_number := F10, g_l_number := PySem.W.mg_of X G a10, b_l_number := b10, a_l_shared := _, d_l_shared := _, F_l_shared := F11, g_l_shared := PySem.W.mg_of X G a11, b_l_shared := b11, a_l_whole := _, d_l_whole := _, F_l_whole := F12, g_l_whole := PySem.W.mg_of X G a12, b_l_whole := b12, a_l_truth := _, d_l_truth := _, F_l_truth := F13, g_l_truth := PySem.W.mg_of X G a13, b_l_truth := b13, a_l_lowest := _, d_l_lowest := _, F_l_lowest := F14, g_l_lowest := PySem.W.mg_of X G a14, b_l_lowest := b14, a_l_refused := _, d_l_refused := _, F_l_refused := F15, g_l_refused := PySem.W.mg_of X G a15, b_l_refused := b15, a_l_written_otherwise := _, d_l_written_otherwise := _, F_l_written_otherwise := F16, g_l_written_otherwise := PySem.W.mg_of X G a16, b_l_written_otherwise := b16, a_l_right := _, d_l_right := _, F_l_right := F17, g_l_right := PySem.W.mg_of X G a17, b_l_right := b17, a_law := _, d_law := _, F_law := F18, g_law := PySem.W.mg_of X G a18, b_law := b18, kb_fraction_bottom_top := kb_fraction_bottom_top, ds1_fraction := ds2_1, v1_fraction := v2_1, b1_fraction := b2_1, m_ValueError := PySem.W.mg_none_of X G z_ValueError, m_abs := PySem.W.mg_none_of X G z_abs, m_bool := PySem.W.mg_none_of X G z_bool, m_int := PySem.W.mg_none_of X G z_int, m_isinstance := PySem.W.mg_none_of X G z_isinstance, m_len := PySem.W.mg_none_of X G z_len, m_range := PySem.W.mg_none_of X G z_range, m_str := PySem.W.mg_none_of X G z_str, m_tuple := PySem.W.mg_none_of X G z_tuple, c_ScrollError := C_ScrollError, g_ScrollError := PySem.W.mg_of X G g_ScrollError, c_NoFraction := C_NoFraction, g_NoFraction := PySem.W.mg_of X G g_NoFraction, x_NoFraction := x_NoFraction, k_NoFraction := kc_NoFraction, bb_NoFraction := bb_NoFraction, t_NoFraction := t_NoFraction, xc_NoFraction := ⟨xa_NoFraction, xb_NoFraction, bb_NoFraction, xc_NoFraction, xd_NoFraction, xe_NoFraction, xf_NoFraction, xg_NoFraction⟩, em_NoFraction_ScrollError := exm_by bs_NoFraction_ScrollError is_NoFraction_ScrollError ts_NoFraction_ScrollError sb_NoFraction_ScrollError, io_NoFraction_NoFraction := io_NoFraction_NoFraction, io_NoFraction_ValueError := io_NoFraction_ValueError }⟩
end LK
open PySem PySem.W PyProof.Rows
set_option maxHeartbeats 0 in
theorem PySem.Challenge.cw_lanescroll_k01_fractions_made_holds : PySem.Challenge.rw_lanescroll_k01_fractions_made.Holds := by
  w_on; o_law; k_head; (case hw => w_witness2)
  k_fill
  refine L2.walk_of (l := PySem.Challenge.rw_lanescroll_k01_fractions_made) (n := 63) (k := 5) (x := "_law_script") (CX := fun _ => L2.CX0) (sp := fun w => LK.spLaw _) rfl (by decide) rfl ⟨rfl, by decide, by decide⟩ (fun w h Y => PySem.W.kIn_of Y) ?F (fun _ _ a ns hl _ hS => ⟨a, ns, rfl, hS, hl, fun _ => rfl⟩) (fun _ _ _ _ _ h => h)
  case F =>
    intro w mg fa h KX G hmg
    refine' LK.all_mk KX G hmg ?a0 ?l0 ?c0 ?k0 ?a1 ?l1 ?c1 ?k1 ?a2 ?l2 ?c2 ?k2 ?e2 ?q2 ?a3 ?l3 ?c3 ?k3 ?a4 ?l4 ?c4 ?k4 ?a5 ?l5 ?c5 ?k5 ?a6 ?l6 ?c6 ?k6 ?a7 ?l7 ?c7 ?k7 ?a8 ?l8 ?c8 ?k8 ?a9 ?l9 ?c9 ?k9 ?a10 ?l10 ?c10 ?k10 ?a11 ?l11 ?c11 ?k11 ?a12 ?l12 ?c12 ?k12 ?a13 ?l13 ?c13 ?k13 ?a14 ?l14 ?c14 ?k14 ?a15 ?l15 ?c15 ?k15 ?a16 ?l16 ?c16 ?k16 ?a17 ?l17 ?c17 ?k17 ?a18 ?l18 ?c18 ?k18 ?z_ValueError ?z_abs ?z_bool ?z_int ?z_isinstance ?z_len ?z_range ?z_str ?z_tuple ?g_ScrollError ?g_NoFraction ?x_NoFraction ?kc_NoFraction ?bb_NoFraction ?t_NoFraction ?xa_NoFraction ?xb_NoFraction ?xc_NoFraction ?xd_NoFraction ?xe_NoFraction ?xf_NoFraction ?xg_NoFraction ?sb_NoFraction_ScrollError ?bs_NoFraction_ScrollError ?ts_NoFraction_ScrollError ?is_NoFraction_ScrollError ?io_NoFraction_NoFraction ?io_NoFraction_ValueError
    (case a0 => k_is)
    (case l0 => k_is)
    (case c0 => k_is)
    (case k0 => k_is)
    (case a1 => k_is)
    (case l1 => k_is)
    (case c1 => k_is)
    (case k1 => k_is)
    (case a2 => k_is)
    (case l2 => k_is)
    (case c2 => k_is)
    (case k2 => k_is)
    (case e2 => k_is)
    (case q2 => first | rfl | k_is | k_exc)
    (case a3 => k_is)
    (case l3 => k_is)
    (case c3 => k_is)
    (case k3 => k_is)
    (case a4 => k_is)
    (case l4 => k_is)
    (case c4 => k_is)
    (case k4 => k_is)
    (case a5 => k_is)
    (case l5 => k_is)
    (case c5 => k_is)
    (case k5 => k_is)
    (case a6 => k_is)
    (case l6 => k_is)
    (case c6 => k_is)
    (case k6 => k_is)
    (case a7 => k_is)
    (case l7 => k_is)
    (case c7 => k_is)
    (case k7 => k_is)
    (case a8 => k_is)
    (case l8 => k_is)
    (case c8 => k_is)
    (case k8 => k_is)
    (case a9 => k_is)
    (case l9 => k_is)
    (case c9 => k_is)
    (case k9 => k_is)
    (case a10 => k_is)
    (case l10 => k_is)
    (case c10 => k_is)
    (case k10 => k_is)
    (case a11 => k_is)
    (case l11 => k_is)
    (case c11 => k_is)
    (case k11 => k_is)
    (case a12 => k_is)
    (case l12 => k_is)
    (case c12 => k_is)
    (case k12 => k_is)
    (case a13 => k_is)
    (case l13 => k_is)
    (case c13 => k_is)
    (case k13 => k_is)
    (case a14 => k_is)
    (case l14 => k_is)
    (case c14 => k_is)
    (case k14 => k_is)
    (case a15 => k_is)
    (case l15 => k_is)
    (case c15 => k_is)
    (case k15 => k_is)
    (case a16 => k_is)
    (case l16 => k_is)
    (case c16 => k_is)
    (case k16 => k_is)
    (case a17 => k_is)
    (case l17 => k_is)
    (case c17 => k_is)
    (case k17 => k_is)
    (case a18 => k_is)
    (case l18 => k_is)
    (case c18 => k_is)
    (case k18 => k_is)
    (case z_ValueError => k_is)
    (case z_abs => k_is)
    (case z_bool => k_is)
    (case z_int => k_is)
    (case z_isinstance => k_is)
    (case z_len => k_is)
    (case z_range => k_is)
    (case z_str => k_is)
    (case z_tuple => k_is)
    (case g_ScrollError => k_is)
    (case g_NoFraction => k_is)
    (case x_NoFraction => k_exc)
    (case kc_NoFraction => k_is)
    (case bb_NoFraction => k_is)
    (case t_NoFraction => k_is)
    (case xa_NoFraction => k_is)
    (case xb_NoFraction => k_is)
    (case xc_NoFraction => k_is)
    (case xd_NoFraction => k_is)
    (case xe_NoFraction => k_is)
    (case xf_NoFraction => k_is)
    (case xg_NoFraction => k_is)
    (case sb_NoFraction_ScrollError => first | rfl | k_is | k_exc)
    (case bs_NoFraction_ScrollError => k_is)
    (case ts_NoFraction_ScrollError => k_is)
    (case is_NoFraction_ScrollError => k_is)
    (case io_NoFraction_NoFraction => first | rfl | k_is | k_exc)
    (case io_NoFraction_ValueError => first | rfl | k_is | k_exc)
