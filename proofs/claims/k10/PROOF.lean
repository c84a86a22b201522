import PyProof.Rows.All
import Wide.All
import OpenK.AllK
import Wide.FinOn
import PySem.Challenge.RW_lanescroll_k10_whole_fractions_in_any_or
import HandS.ForMost
import HandS.ForExc
import HandS.IsInst
import HandS.TupLe
import HandS.Wide
import HandS.Defaults
import HandS.ExcIs
import HandS.Style
set_option Elab.async false
set_option linter.all false
set_option maxRecDepth 100000
set_option maxHeartbeats 4000000
namespace LK
open PySem PySem.Spec PyProof.Rows L2
def topS (i : Nat) : Stmt := PySem.Challenge.pw_lanescroll_k10_whole_fractions_in_any_or.main.body.getD i (.Pass ⟨0, 0, 0, 0⟩)
abbrev s_is_number : Stmt := topS 4
abbrev N_is_number : List Str := ["thing"]
theorem sc_is_number : FnScope N_is_number ["thing"] (defScope s_is_number) := ⟨rfl, rfl, rfl, by decide +kernel, rfl, by decide +kernel, by decide +kernel⟩
abbrev s_common_divisor : Stmt := topS 6
abbrev N_common_divisor : List Str := ["one", "other"]
theorem sc_common_divisor : FnScope N_common_divisor ["one", "other"] (defScope s_common_divisor) := ⟨rfl, rfl, rfl, by decide +kernel, rfl, by decide +kernel, by decide +kernel⟩
abbrev s_fraction : Stmt := topS 7
abbrev N_fraction : List Str := ["top", "bottom", "divisor"]
theorem sc_fraction : FnScope N_fraction ["top", "bottom"] (defScope s_fraction) := ⟨rfl, rfl, rfl, by decide +kernel, rfl, by decide +kernel, by decide +kernel⟩
abbrev s_summed : Stmt := topS 8
abbrev N_summed : List Str := ["one", "top", "bottom", "divisor", "part", "whole", "rest"]
theorem sc_summed : FnScope N_summed ["one", "top", "bottom"] (defScope s_summed) := ⟨rfl, rfl, rfl, by decide +kernel, rfl, by decide +kernel, by decide +kernel⟩
abbrev s_plus : Stmt := topS 9
abbrev N_plus : List Str := ["one", "other"]
theorem sc_plus : FnScope N_plus ["one", "other"] (defScope s_plus) := ⟨rfl, rfl, rfl, by decide +kernel, rfl, by decide +kernel, by decide +kernel⟩
abbrev s_minus : Stmt := topS 10
abbrev N_minus : List Str := ["one", "other"]
theorem sc_minus : FnScope N_minus ["one", "other"] (defScope s_minus) := ⟨rfl, rfl, rfl, by decide +kernel, rfl, by decide +kernel, by decide +kernel⟩
abbrev s_times : Stmt := topS 11
abbrev N_times : List Str := ["one", "other", "left", "right"]
theorem sc_times : FnScope N_times ["one", "other"] (defScope s_times) := ⟨rfl, rfl, rfl, by decide +kernel, rfl, by decide +kernel, by decide +kernel⟩
abbrev s_less : Stmt := topS 12
abbrev N_less : List Str := ["one", "other"]
theorem sc_less : FnScope N_less ["one", "other"] (defScope s_less) := ⟨rfl, rfl, rfl, by decide +kernel, rfl, by decide +kernel, by decide +kernel⟩
abbrev s_floor : Stmt := topS 13
abbrev N_floor : List Str := ["one"]
theorem sc_floor : FnScope N_floor ["one"] (defScope s_floor) := ⟨rfl, rfl, rfl, by decide +kernel, rfl, by decide +kernel, by decide +kernel⟩
abbrev s_l_cell_at : Stmt := topS 15
abbrev N_l_cell_at : List Str := ["_law_script", "_law_k"]
theorem sc_l_cell_at : FnScope N_l_cell_at ["_law_script", "_law_k"] (defScope s_l_cell_at) := ⟨rfl, rfl, rfl, by decide +kernel, rfl, by decide +kernel, by decide +kernel⟩
abbrev s_l_digit : Stmt := topS 16
abbrev N_l_digit : List Str := ["_law_state", "_law_base", "_law_found", "_law_number"]
theorem sc_l_digit : FnScope N_l_digit ["_law_state", "_law_base"] (defScope s_l_digit) := ⟨rfl, rfl, rfl, by decide +kernel, rfl, by decide +kernel, by decide +kernel⟩
abbrev s_l_drawn : Stmt := topS 17
abbrev N_l_drawn : List Str := ["_law_state", "_law_ahead", "_law_way", "_law_top", "_law_bottom", "_law_one"]
theorem sc_l_drawn : FnScope N_l_drawn ["_law_state", "_law_ahead"] (defScope s_l_drawn) := ⟨rfl, rfl, rfl, by decide +kernel, rfl, by decide +kernel, by decide +kernel⟩
abbrev s_l_mixed : Stmt := topS 18
abbrev N_l_mixed : List Str := ["_law_state", "_law_things", "_law_left", "_law_found"]
theorem sc_l_mixed : FnScope N_l_mixed ["_law_state", "_law_things"] (defScope s_l_mixed) := ⟨rfl, rfl, rfl, by decide +kernel, rfl, by decide +kernel, by decide +kernel⟩
abbrev s_l_sum : Stmt := topS 19
abbrev N_l_sum : List Str := ["_law_some", "_law_found", "_law_one"]
theorem sc_l_sum : FnScope N_l_sum ["_law_some"] (defScope s_l_sum) := ⟨rfl, rfl, rfl, by decide +kernel, rfl, by decide +kernel, by decide +kernel⟩
abbrev s_l_product : Stmt := topS 20
abbrev N_l_product : List Str := ["_law_some", "_law_found", "_law_one"]
theorem sc_l_product : FnScope N_l_product ["_law_some"] (defScope s_l_product) := ⟨rfl, rfl, rfl, by decide +kernel, rfl, by decide +kernel, by decide +kernel⟩
abbrev s_l_worth : Stmt := topS 21
abbrev N_l_worth : List Str := ["_law_pairs", "_law_bottom", "_law_pair"]
theorem sc_l_worth : FnScope N_l_worth ["_law_pairs"] (defScope s_l_worth) := ⟨rfl, rfl, rfl, by decide +kernel, rfl, by decide +kernel, by decide +kernel⟩
abbrev s_l_lowest : Stmt := topS 22
abbrev N_l_lowest : List Str := ["_law_top", "_law_bottom", "_law_one", "_law_other"]
theorem sc_l_lowest : FnScope N_l_lowest ["_law_top", "_law_bottom"] (defScope s_l_lowest) := ⟨rfl, rfl, rfl, by decide +kernel, rfl, by decide +kernel, by decide +kernel⟩
abbrev s_l_order_right : Stmt := topS 23
abbrev N_l_order_right : List Str := ["_law_some", "_law_one", "_law_other", "_law_ahead"]
theorem sc_l_order_right : FnScope N_l_order_right ["_law_some"] (defScope s_l_order_right) := ⟨rfl, rfl, rfl, by decide +kernel, rfl, by decide +kernel, by decide +kernel⟩
abbrev s_law : Stmt := topS 24
abbrev N_law : List Str := ["_law_script", "_law_pairs", "_law_cell", "_law_top", "_law_some", "_law_under", "_law_state", "_law_half", "_law_found", "_law_product_here", "_law_tops", "_law_pair", "_law_spread", "_law_low", "_law_bottom", "_law_one"]
theorem sc_law : FnScope N_law ["_law_script"] (defScope s_law) := ⟨rfl, rfl, rfl, by decide +kernel, rfl, by decide +kernel, by decide +kernel⟩

structure Txt (K : PySem.W.Frag) (mg : Str → Option Value) : Type where
  a_is_number : Addr
  d_is_number : FuncData
  F_is_number : Fun K "is_number" "is_number" s_is_number a_is_number d_is_number
  g_is_number : mg "is_number" = some (.ref a_is_number)
  b_is_number : Binds K d_is_number ["thing"] []
  a_common_divisor : Addr
  d_common_divisor : FuncData
  F_common_divisor : Fun K "common_divisor" "common_divisor" s_common_divisor a_common_divisor d_common_divisor
  g_common_divisor : mg "common_divisor" = some (.ref a_common_divisor)
  b_common_divisor : Binds K d_common_divisor ["one", "other"] []
  a_fraction : Addr
  d_fraction : FuncData
  F_fraction : FunD K "fraction" "fraction" (defArgs s_fraction) (defBody s_fraction) (defScope s_fraction) [V.int 1] [] a_fraction d_fraction
  g_fraction : mg "fraction" = some (.ref a_fraction)
  b_fraction : Binds K d_fraction ["top", "bottom"] []
  a_summed : Addr
  d_summed : FuncData
  F_summed : Fun K "summed" "summed" s_summed a_summed d_summed
  g_summed : mg "summed" = some (.ref a_summed)
  b_summed : Binds K d_summed ["one", "top", "bottom"] []
  a_plus : Addr
  d_plus : FuncData
  F_plus : Fun K "plus" "plus" s_plus a_plus d_plus
  g_plus : mg "plus" = some (.ref a_plus)
  b_plus : Binds K d_plus ["one", "other"] []
  a_minus : Addr
  d_minus : FuncData
  F_minus : Fun K "minus" "minus" s_minus a_minus d_minus
  g_minus : mg "minus" = some (.ref a_minus)
  b_minus : Binds K d_minus ["one", "other"] []
  a_times : Addr
  d_times : FuncData
  F_times : Fun K "times" "times" s_times a_times d_times
  g_times : mg "times" = some (.ref a_times)
  b_times : Binds K d_times ["one", "other"] []
  a_less : Addr
  d_less : FuncData
  F_less : Fun K "less" "less" s_less a_less d_less
  g_less : mg "less" = some (.ref a_less)
  b_less : Binds K d_less ["one", "other"] []
  a_floor : Addr
  d_floor : FuncData
  F_floor : Fun K "floor" "floor" s_floor a_floor d_floor
  g_floor : mg "floor" = some (.ref a_floor)
  b_floor : Binds K d_floor ["one"] []
  a_l_cell_at : Addr
  d_l_cell_at : FuncData
  F_l_cell_at : Fun K "_law_cell_at" "_law_cell_at" s_l_cell_at a_l_cell_at d_l_cell_at
  g_l_cell_at : mg "_law_cell_at" = some (.ref a_l_cell_at)
  b_l_cell_at : Binds K d_l_cell_at ["_law_script", "_law_k"] []
  a_l_digit : Addr
  d_l_digit : FuncData
  F_l_digit : Fun K "_law_digit" "_law_digit" s_l_digit a_l_digit d_l_digit
  g_l_digit : mg "_law_digit" = some (.ref a_l_digit)
  b_l_digit : Binds K d_l_digit ["_law_state", "_law_base"] []
  a_l_drawn : Addr
  d_l_drawn : FuncData
  F_l_drawn : Fun K "_law_drawn" "_law_drawn" s_l_drawn a_l_drawn d_l_drawn
  g_l_drawn : mg "_law_drawn" = some (.ref a_l_drawn)
  b_l_drawn : Binds K d_l_drawn ["_law_state", "_law_ahead"] []
  a_l_mixed : Addr
  d_l_mixed : FuncData
  F_l_mixed : Fun K "_law_mixed" "_law_mixed" s_l_mixed a_l_mixed d_l_mixed
  g_l_mixed : mg "_law_mixed" = some (.ref a_l_mixed)
  b_l_mixed : Binds K d_l_mixed ["_law_state", "_law_things"] []
  a_l_sum : Addr
  d_l_sum : FuncData
  F_l_sum : Fun K "_law_sum" "_law_sum" s_l_sum a_l_sum d_l_sum
  g_l_sum : mg "_law_sum" = some (.ref a_l_sum)
  b_l_sum : Binds K d_l_sum ["_law_some"] []
  a_l_product : Addr
  d_l_product : FuncData
  F_l_product : Fun K "_law_product" "_law_product" s_l_product a_l_product d_l_product
  g_l_product : mg "_law_product" = some (.ref a_l_product)
  b_l_product : Binds K d_l_product ["_law_some"] []
  a_l_worth : Addr
  d_l_worth : FuncData
  F_l_worth : Fun K "_law_worth" "_law_worth" s_l_worth a_l_worth d_l_worth
  g_l_worth : mg "_law_worth" = some (.ref a_l_worth)
  b_l_worth : Binds K d_l_worth ["_law_pairs"] []
  a_l_lowest : Addr
  d_l_lowest : FuncData
  F_l_lowest : Fun K "_law_lowest" "_law_lowest" s_l_lowest a_l_lowest d_l_lowest
  g_l_lowest : mg "_law_lowest" = some (.ref a_l_lowest)
  b_l_lowest : Binds K d_l_lowest ["_law_top", "_law_bottom"] []
  a_l_order_right : Addr
  d_l_order_right : FuncData
  F_l_order_right : Fun K "_law_order_right" "_law_order_right" s_l_order_right a_l_order_right d_l_order_right
  g_l_order_right : mg "_law_order_right" = some (.ref a_l_order_right)
  b_l_order_right : Binds K d_l_order_right ["_law_some"] []
  a_law : Addr
  d_law : FuncData
  F_law : Fun K "law" "law" s_law a_law d_law
  g_law : mg "law" = some (.ref a_law)
  b_law : Binds K d_law ["_law_script"] []
  m_abs : mg "abs" = none
  m_bool : mg "bool" = none
  m_int : mg "int" = none
  m_isinstance : mg "isinstance" = none
  m_len : mg "len" = none
  m_list : mg "list" = none
  m_sum : mg "sum" = none
  c_ScrollError : Addr
  g_ScrollError : mg "ScrollError" = some (.ref c_ScrollError)
  c_NoFraction : Addr
  g_NoFraction : mg "NoFraction" = some (.ref c_NoFraction)
  x_NoFraction : PySem.W.excIn K c_NoFraction [.type "ValueError", .type "Exception", .type "BaseException", .type "object"] "ValueError.__new__" = true
  k_NoFraction : PySem.W.keepIn K (.ref c_NoFraction) = true
  bb_NoFraction : PySem.W.subIn K (.ref c_NoFraction) (.type "BaseException") = some true
  t_NoFraction : PySem.W.typeIn K (.ref c_NoFraction) = some (.type "type")
  xc_NoFraction : ExcC K c_NoFraction
/-! ### heaps -/
/-- all but what stands at p is as it was -/
def Frm (p : Addr) (H H' : Hp) : Prop := ∀ b o, b ≠ p → H b = some o → H' b = some o
theorem Frm.get {p q : Addr} {H H' : Hp} {o : HO} (f : Frm p H H') (n : q ≠ p) (h : H q = some o) : H' q = some o := f q o n h
theorem Frm.refl {p : Addr} {H : Hp} : Frm p H H := fun _ _ _ h => h
theorem Frm.trans {p : Addr} {H H1 H2 : Hp} (a : Frm p H H1) (b : Frm p H1 H2) : Frm p H H2 := fun c o n h => b c o n (a c o n h)
theorem Frm.upd {p : Addr} {H : Hp} {o : HO} : Frm p H (upd H p o) := fun c u n h => by rw [upd_ne n]; exact h
theorem upd_old {H : Hp} {a q : Addr} {o o' : HO} (na : H a = none) (h : H q = some o) : upd H a o' q = some o := by
  rw [upd_ne (ne_of_none h na)]; exact h
theorem upd_oth {H : Hp} {a q : Addr} {o o' : HO} (na : q ≠ a) (h : H q = some o) : upd H a o' q = some o := by
  rw [upd_ne na]; exact h
theorem Frm.new {p a : Addr} {H H' : Hp} {o : HO} (f : Frm p H H') (na : H' a = none) : Frm p H (L2.upd H' a o) := fun c u n h => upd_old na (f c u n h)
theorem Frm.upd2 {p : Addr} {H H' : Hp} {o : HO} (f : Frm p H H') : Frm p H (L2.upd H' p o) := f.trans .upd
theorem Frm.own {p a : Addr} {H H' : Hp} {o : HO} (f : Frm p H H') (na : H a = none) : Frm p H (L2.upd H' a o) := fun c u n h => upd_oth (ne_of_none h na) (f c u n h)
theorem Frm.new2 {p a : Addr} {H H' : Hp} {o o2 : HO} (f : Frm p H H') (na : H' a = none) : Frm p H (L2.upd (L2.upd H' a o2) a o) := by rw [upd_upd]; exact f.new na
theorem upd_old2 {H : Hp} {a q : Addr} {o o' o2 : HO} (na : H a = none) (h : H q = some o) : upd (upd H a o2) a o' q = some o := by rw [upd_upd]; exact upd_old na h
theorem new_ne {H : Hp} {a q : Addr} {o : HO} (na : H a = none) (h : H q = some o) : a ≠ q := fun e => by subst e; rw [na] at h; cases h
theorem Same.get {q : Addr} {H H' : Hp} {o : HO} (f : Same H H') (h : H q = some o) : H' q = some o := f q o h
theorem Same.new {a : Addr} {H H' : Hp} {o : HO} (f : Same H H') (na : H' a = none) : Same H (L2.upd H' a o) := fun c u h => upd_old na (f c u h)
theorem Same.new2 {a : Addr} {H H' : Hp} {o o2 : HO} (f : Same H H') (na : H' a = none) : Same H (L2.upd (L2.upd H' a o2) a o) := by rw [upd_upd]; exact Same.new f na
theorem Same.own {a : Addr} {H H' : Hp} {o : HO} (f : Same H H') (na : H a = none) : Same H (L2.upd H' a o) := fun c u h => upd_oth (ne_of_none h na) (f c u h)
theorem Same.frm {p : Addr} {H H' : Hp} (f : Same H H') : Frm p H H' := fun c u _ h => f c u h
/-- what is new to an elder heap and stands apart is no matter -/
theorem Frm.same {p : Addr} {H H' : Hp} (f : Frm p H H') (n : H p = none) : Same H H' := fun c u h => f c u (ne_of_none h n) h
theorem Same.byFrm {p : Addr} {H H1 H2 : Hp} (f : Same H H1) (g : Frm p H1 H2) (n : H p = none) : Same H H2 := fun c u h => g c u (ne_of_none h n) (f c u h)
theorem Frm.none {p q : Addr} {H H' : Hp} (f : Frm p H H') (n : q ≠ p) (h : H' q = none) : H q = none := by
  cases e : H q with
  | none => rfl
  | some o => rw [f q o n e] at h; cases h
theorem Same.none {q : Addr} {H H' : Hp} (f : Same H H') (h : H' q = none) : H q = none := by
  cases e : H q with
  | none => rfl
  | some o => rw [f q o e] at h; cases h
/-! ### sizes, ifs -/
theorem szb {n : Nat} (h : n ≤ 16000000) : n ≤ sizeLine := Nat.le_trans h (by decide)
theorem szbl {n : Nat} (h : n ≤ 16000000) : n < sizeLine := Nat.lt_of_le_of_lt h (by decide)
theorem sz {n : Nat} (h : Nat.ble n 1000 = true) : n ≤ sizeLine := Nat.le_trans (Nat.le_of_ble_eq_true h) (by decide)
theorem szl {n : Nat} (h : Nat.ble n 1000 = true) : n < sizeLine := Nat.lt_of_le_of_lt (Nat.le_of_ble_eq_true h) (by decide)
theorem szn {n : Nat} (h : n ≤ 1000) : n ≤ sizeLine := Nat.le_trans h (by decide)
theorem sznl {n : Nat} (h : n ≤ 1000) : n < sizeLine := Nat.lt_of_le_of_lt h (by decide)
theorem ifT {c : Bool} {A B : Prop} (h : c = true) (a : A) : if c = true then A else B := by rw [if_pos h]; exact a
theorem ifF {c : Bool} {A B : Prop} (h : c = false) (b : B) : if c = true then A else B := by rw [h, if_neg Bool.false_ne_true]; exact b
theorem ifC {c : Bool} {A B : Prop} (a : c = true → A) (b : c = false → B) : if c = true then A else B := by
  cases c with
  | true => exact ifT rfl (a rfl)
  | false => exact ifF rfl (b rfl)
theorem ifAnd {k1 k2 : Bool} {A : Prop} {Q : VK} {H : Hp} (a : Q (.bl k2) H → A) (h : Q (.bl (k1 && k2)) H) : if k1 = true then A else Q (.bl false) H := by
  cases k1 with
  | true => exact ifT rfl (a h)
  | false => exact ifF rfl h
/-! ### items at a drawn place -/
theorem at_nn {α : Type} {xs : List α} {d : Int} (h0 : 0 ≤ d) (h1 : d < xs.length) : ∃ v, atI xs d = some v ∧ v ∈ xs ∧ xs[d.toNat]? = some v := by
  have h2 : d.toNat < xs.length := by omega
  have e : (d.toNat : Int) = d := by omega
  have k := atI_nat (List.getElem?_eq_getElem h2)
  rw [e] at k
  exact ⟨xs[d.toNat], k, List.getElem_mem h2, List.getElem?_eq_getElem h2⟩
theorem ixP {K : PySem.W.Frag} {H : Hp} {Q : VK} {p : Addr} {xs : List V} {d : Int} (R : V → Prop) (hp : SqL K H p xs) (h0 : 0 ≤ d) (h1 : d < xs.length) (all : ∀ v ∈ xs, R v) (k : ∀ v, R v → Q v H) : rIxL K (.ref p) (.int d) H Q := by
  obtain ⟨v, e, m, _⟩ := at_nn h0 h1
  exact ⟨_, _, _, _, rfl, rfl, hp, e, k v (all v m)⟩
theorem ixG {K : PySem.W.Frag} {H : Hp} {Q : VK} {p : Addr} {xs : List V} {d : Int} (hp : SqL K H p xs) (h0 : 0 ≤ d) (h1 : d < xs.length) (k : ∀ v, xs[d.toNat]? = some v → Q v H) : rIxL K (.ref p) (.int d) H Q := by
  obtain ⟨v, e, _, m⟩ := at_nn h0 h1
  exact ⟨_, _, _, _, rfl, rfl, hp, e, k v m⟩
def isI : V → Bool
  | .int _ => true
  | _ => false
theorem ixI {K : PySem.W.Frag} {H : Hp} {Q : VK} {p : Addr} {xs : List V} {d : Int} (hp : SqL K H p xs) (h0 : 0 ≤ d) (h1 : d < xs.length) (all : xs.all isI = true) (k : ∀ i, V.int i ∈ xs → Q (.int i) H) : rIxL K (.ref p) (.int d) H Q := by
  refine ixP (fun v => (∃ i, v = .int i) ∧ v ∈ xs) hp h0 h1 (fun v hv => ⟨?_, hv⟩) (fun v ⟨⟨i, e⟩, m⟩ => ?_)
  · have := List.all_eq_true.mp all v hv
    cases v <;> first | exact ⟨_, rfl⟩ | cases this
  · subst e; exact k i m
/-! ### a call with keywords alone -/
section
variable {X : Cx} {CX : CXT} {k : Nat} {f : Addr} {fd : FuncData} {ps ks : List Str} {sp : Sp} {E : XK} {x : Str} {p pos : Pos} {kws : List Keyword} {tk : TA} {g : List Value → List Value → List Value} {gV : List V → List V → List V}
theorem pe_callN0 (F : FnOk X.prog X.w X.K X.mg X.base CX k f fd ps sp) (hr : Room k X.A) (hg : Gl X x) (hm : X.mg x = some (.ref f)) (hk : PySem.W.keepIn X.K (.ref f) = true) (hb : KBn X.K fd ps 0 ks g gV) (hx : Passes CX X E)
    (hkw : PK X kws tk) (hall : (backToKw pos (keywordEach kws X.env)).all (·.1.isSome) = true := by rfl) (hks : (backToKw pos (keywordEach kws X.env)).filterMap (·.1) = ks := by rfl)
    (hdb : (x == ("__debug__" : Str)) = false := by decide)
    (hpl : ((backTo pos (starEach [] X.env)).any (·.1) || (backToKw pos (keywordEach kws X.env)).any (·.1.isNone)) = false := by rfl) :
    PE X (.Call (.Name x p) [] kws pos) (tCallN 0 ks.length sp gV E tNil tk) := by
  refine ⟨fun pins s σ H Q I h => ?_⟩
  refine wpAny_Call_Name_kw (ld_glob I hg hm ?_ hdb)
  refine PySem.W.callWith_KW0 (h₀ := X.base) I.ok.mod.kin hk hall (thn (hkw.run pos pins s σ H _ I h) fun ws s2 ⟨zs, H2, I2, rz, l1, l2, q2⟩ => ⟨I2.kIn, ?_⟩) hpl
  rw [hks]
  exact run_fnN F hr hb hx I2 .nil rz rfl l2 q2
end
section
variable {K : PySem.W.Frag} {x qual : Str} {st : Stmt} {f : Addr} {fd : FuncData} {ps ks : List Str} {n : Nat}
theorem kbAll {F : Fun K x qual st f fd} {g : {α : Type} → List α → List α → List α} (h : ∀ (kV doc pm : Value) (an : Option Addr) (cdv ct : Value) (us ws : List Value), us.length = n → ws.length = ks.length →
    bindArgs (PySem.W.fnOf x qual (defArgs st) (defBody st) (defScope st) .none kV doc pm an cdv ct) ⟨us, ks.zip ws⟩ = pure (ps.zip (g us ws)))
    (hrel : ∀ {vs : List V} {us : List Value} {zs : List V} {ws : List Value}, Vals vs us → Vals zs ws → Vals (g vs zs) (g us ws)) : KBn K fd ps n ks (fun us ws => g us ws) (fun us ws => g us ws) := by
  obtain ⟨oc, od, kV, doc, pm, an, cdv, ct, osl, rfl, lk, hcd⟩ := F.ex
  exact ⟨fun s us ws _ h1 h2 => .of_eq (h kV doc pm an cdv ct us ws h1 h2), fun r1 r2 => hrel r1 r2⟩
variable {params : Arguments} {body : List Stmt} {scope : Scope} {dvs : List V}
theorem bindsAll {F : FunD K x qual params body scope dvs [] f fd}
    (h : ∀ (T : Addr) (kV doc pm : Value) (an : Option Addr) (cdv ct : Value) (us its : List Value), us.length = ps.length → its.length = dvs.length →
      ∃ k, bindArgs (PySem.W.fnOf x qual params body scope (.ref T) kV doc pm an cdv ct) ⟨us, []⟩ = seqItems? (.ref T) >>= k ∧ k (some its.toArray) = pure (ps.zip us)) (hd : dvs ≠ []) : Binds K fd ps [] := by
  obtain ⟨ds, hv, hb⟩ := F.binds1 (ps := ps) ps.length dvs.length hd (by omega) (fun T kV doc pm an cdv ct us its h1 h2 => by
    obtain ⟨k, e1, e2⟩ := h T kV doc pm an cdv ct us its h1 h2
    refine ⟨k, e1, ?_⟩
    rw [e2, ← h2, List.drop_length, List.append_nil])
  rw [List.drop_length] at hv
  cases hv
  exact hb
theorem kbAllD {F : FunD K x qual params body scope dvs [] f fd} {g : {α : Type} → List α → List α → List α}
    (h : ∀ (T : Addr) (kV doc pm : Value) (an : Option Addr) (cdv ct : Value) (us its ws : List Value), us.length = n → its.length = dvs.length → ws.length = ks.length →
      ∃ k, bindArgs (PySem.W.fnOf x qual params body scope (.ref T) kV doc pm an cdv ct) ⟨us, ks.zip ws⟩ = seqItems? (.ref T) >>= k ∧ k (some its.toArray) = pure (ps.zip (g us ws))) (hd : dvs ≠ [])
    (hrel : ∀ {vs : List V} {us : List Value} {zs : List V} {ws : List Value}, Vals vs us → Vals zs ws → Vals (g vs zs) (g us ws)) : KBn K fd ps n ks (fun us ws => g us ws) (fun us ws => g us ws) := by
  obtain ⟨oc, od, dV, kV, doc, pm, an, cdv, ct, osl, rfl, lk, hcd, hD, hK⟩ := F.ex
  rcases hD with ⟨e, _⟩ | ⟨_, T, o, its, m, rfl, lT, oT, rT⟩
  · exact absurd e hd
  · refine ⟨fun s us ws X l1 l2 => ?_, fun r1 r2 => hrel r1 r2⟩
    obtain ⟨k, e1, e2⟩ := h T kV doc pm an cdv ct us its ws l1 rT.length.symm l2
    refine BindsTo.of_looks fun M => ?_
    rw [e1]
    exact looks_items X lT oT (.of_pure e2)
theorem exm_by {K : PySem.W.Frag} {C S : Addr} {b : Bool} (h1 : PySem.W.subIn K (.ref S) (.type "BaseException") = some true) (h2 : PySem.W.isClsIn K S = true) (h3 : PySem.W.typeIn K (.ref S) = some (.type "type")) (h4 : PySem.W.subIn K (.ref C) (.ref S) = some b) :
    PySem.W.exmOne K (.ref C) (.ref S) = some b := by
  have e1 : (PySem.W.subIn K (.ref S) (.type "BaseException") == some true) = true := by rw [h1] <;> rfl
  have e2 : ((PySem.W.clsIn K S).isSome && PySem.W.typeIn K (.ref S) == some (.type "type")) = true := by
    have h2' : (PySem.W.clsIn K S).isSome = true := h2
    rw [h2', h3] <;> rfl
  show (if (PySem.W.subIn K (.ref S) (.type "BaseException") == some true) = true then (if ((PySem.W.clsIn K S).isSome && PySem.W.typeIn K (.ref S) == some (.type "type")) = true then PySem.W.subIn K (.ref C) (.ref S) else none) else none) = some b
  rw [if_pos e1, if_pos e2]
  exact h4
end
/-! ### a < b < c of whole numbers, as one answer -/
def MonoE (t : TE) : Prop := ∀ (σ : L2.St) (H : Hp) (Q Q' : VK), (∀ v H', Q v H' → Q' v H') → t σ H Q → t σ H Q'
theorem mn_var {i : Nat} : MonoE (tVar i) := fun _ _ _ _ k ⟨v, e, q⟩ => ⟨v, e, k _ _ q⟩
theorem mn_c {v : V} : MonoE (tC v) := fun _ _ _ _ k q => k _ _ q
theorem mn_I0 {g : Int → Int → V} {ta tb : TE} (a : MonoE ta) (b : MonoE tb) : MonoE (tOp (rI0 g) ta tb) := fun σ H Q Q' k h =>
  a σ H _ _ (fun _ H1 h1 => b σ H1 _ _ (fun _ _ ⟨i, j, e1, e2, q⟩ => ⟨i, j, e1, e2, k _ _ q⟩) h1) h
theorem mn_I {C : Int → Int → Prop} {g : Int → Int → V} {ta tb : TE} (a : MonoE ta) (b : MonoE tb) : MonoE (tOp (rI C g) ta tb) := fun σ H Q Q' k h =>
  a σ H _ _ (fun _ H1 h1 => b σ H1 _ _ (fun _ _ ⟨i, j, e1, e2, c, q⟩ => ⟨i, j, e1, e2, c, k _ _ q⟩) h1) h
theorem mn_ixL {K : PySem.W.Frag} {ta tb : TE} (a : MonoE ta) (b : MonoE tb) : MonoE (tOp (rIxL K) ta tb) := fun σ H Q Q' k h =>
  a σ H _ _ (fun _ H1 h1 => b σ H1 _ _ (fun _ _ ⟨p, xs, i, v, e1, e2, s, e, q⟩ => ⟨p, xs, i, v, e1, e2, s, e, k _ _ q⟩) h1) h
theorem mn_ixT {K : PySem.W.Frag} {ta tb : TE} (a : MonoE ta) (b : MonoE tb) : MonoE (tOp (rIxT K) ta tb) := fun σ H Q Q' k h =>
  a σ H _ _ (fun _ H1 h1 => b σ H1 _ _ (fun _ _ ⟨p, xs, i, v, e1, e2, s, e, q⟩ => ⟨p, xs, i, v, e1, e2, s, e, k _ _ q⟩) h1) h
theorem mn_len {r : List V → Hp → VK → Prop} {ta : TE} (a : MonoE ta) (hr : ∀ vs H (Q Q' : VK), (∀ v H', Q v H' → Q' v H') → r vs H Q → r vs H Q') : MonoE (tCB r (tCons ta tNil)) := fun σ H Q Q' k h =>
  a σ H _ _ (fun _ H1 h1 => hr _ _ _ _ k h1) h
def tChI (g g' : Int → Int → Bool) (ta tb tc : TE) : TE := fun σ H Q => ta σ H fun x H1 => tb σ H1 fun y H2 => tc σ H2 fun z H3 => ∃ i j l : Int, x = .int i ∧ y = .int j ∧ z = .int l ∧ H3 = H2 ∧ Q (.bl (g i j && g' j l)) H2
/-- what c's reading tells is told at once: c changes nothing -/
theorem tChI_to {g g' : Int → Int → Bool} {ta tb tc : TE} (ma : MonoE ta) (mb : MonoE tb) (mc : MonoE tc) {σ : L2.St} {H : Hp} {Q : VK} (cx : ∀ (σ : L2.St) (H : Hp) (Q : V → Hp → Prop), tc σ H Q → ∃ v H', Q v H') (h : tChI g g' ta tb tc σ H Q) :
    tChain (rI0 fun i j => .bl (g i j)) (rI0 fun i j => .bl (g' i j)) ta tb tc σ H Q := by
  refine ma σ H _ _ (fun x H1 h1 => mb σ H1 _ _ (fun y H2 h2 => ?_) h1) h
  obtain ⟨_, _, i, j, l, ex, ey, _, _, q⟩ := cx _ _ _ h2
  refine ⟨i, j, ex, ey, _, rfl, ?_⟩
  cases e : g i j with
  | true =>
    refine ifT rfl (mc σ H2 _ _ (fun z H3 h3 => ?_) h2)
    obtain ⟨i', j', l', ex', ey', ez, e3, q'⟩ := h3
    have e1 : i' = i := V.int.inj (ex'.symm.trans ex)
    have e2 : j' = j := V.int.inj (ey'.symm.trans ey)
    subst e1 e2 ez e3
    rw [e, Bool.true_and] at q'
    exact ⟨j', l', ey, rfl, q'⟩
  | false =>
    rw [e, Bool.false_and] at q
    exact ifF rfl q
def ShowsE (t : TE) : Prop := ∀ (σ : L2.St) (H : Hp) (Q : V → Hp → Prop), t σ H Q → ∃ v H', Q v H'
theorem sh_var {i : Nat} : ShowsE (tVar i) := fun _ _ _ ⟨v, _, q⟩ => ⟨v, _, q⟩
theorem sh_c {v : V} : ShowsE (tC v) := fun _ _ _ q => ⟨_, _, q⟩
theorem sh_I0 {g : Int → Int → V} {ta tb : TE} (a : ShowsE ta) (b : ShowsE tb) : ShowsE (tOp (rI0 g) ta tb) := fun σ H Q h => by
  obtain ⟨x, H1, h1⟩ := a _ _ _ h
  obtain ⟨y, H2, h2⟩ := b _ _ _ h1
  obtain ⟨i, j, _, _, q⟩ := h2
  exact ⟨_, _, q⟩
theorem sh_I {C : Int → Int → Prop} {g : Int → Int → V} {ta tb : TE} (a : ShowsE ta) (b : ShowsE tb) : ShowsE (tOp (rI C g) ta tb) := fun σ H Q h => by
  obtain ⟨x, H1, h1⟩ := a _ _ _ h
  obtain ⟨y, H2, h2⟩ := b _ _ _ h1
  obtain ⟨i, j, _, _, _, q⟩ := h2
  exact ⟨_, _, q⟩
theorem sh_ixL {K : PySem.W.Frag} {ta tb : TE} (a : ShowsE ta) (b : ShowsE tb) : ShowsE (tOp (rIxL K) ta tb) := fun σ H Q h => by
  obtain ⟨x, H1, h1⟩ := a _ _ _ h
  obtain ⟨y, H2, h2⟩ := b _ _ _ h1
  obtain ⟨_, _, _, _, _, _, _, _, q⟩ := h2
  exact ⟨_, _, q⟩
theorem sh_ixT {K : PySem.W.Frag} {ta tb : TE} (a : ShowsE ta) (b : ShowsE tb) : ShowsE (tOp (rIxT K) ta tb) := fun σ H Q h => by
  obtain ⟨x, H1, h1⟩ := a _ _ _ h
  obtain ⟨y, H2, h2⟩ := b _ _ _ h1
  obtain ⟨_, _, _, _, _, _, _, _, q⟩ := h2
  exact ⟨_, _, q⟩
theorem PE.weak {X : Cx} {e : Expr} {t t' : TE} (h : PE X e t) (w : ∀ σ H Q, t' σ H Q → t σ H Q) : PE X e t' := ⟨fun pins s σ H Q I q => h.run pins s σ H Q I (w _ _ _ q)⟩
theorem pe_chainI {X : Cx} {op op' : CmpOp} {g g' : Int → Int → Bool} {a b c : Expr} {ta tb tc : TE} {pos : Pos} (ho : OpR X (compareOp op) (rI0 fun i j => .bl (g i j))) (ho' : OpR X (compareOp op') (rI0 fun i j => .bl (g' i j)))
    (ha : PE X a ta) (hb : PE X b tb) (hc : PE X c tc) (ma : MonoE ta) (mb : MonoE tb) (mc : MonoE tc) (sc : ShowsE tc) (hm : lastMarks [op, op'] [b, c] = false := by rfl) : PE X (.Compare a [op, op'] [b, c] pos) (tChI g g' ta tb tc) :=
  PE.weak (pe_chain ho ho' ha hb hc hm) (fun _ _ _ h => tChI_to ma mb mc sc h)
/-! ### rules within a comprehension: the written part by its own name -/
section
variable {X : Cx} {K : PySem.W.Frag}
theorem ix_listK (h : X.K = K) : IxR X (rIxL K) := h ▸ ix_list
theorem ix_tupK (h : X.K = K) : IxR X (rIxT K) := h ▸ ix_tup
theorem sl_listK (h : X.K = K) : SlR X (rSlL K) := h ▸ sl_list
theorem call_len_seqK (h : X.K = K) : CallR X (.builtin "len") (fun xs H Q => ∃ p ys, xs = [.ref p] ∧ (SqL K H p ys ∨ SqT K H p ys) ∧ Q (.int ys.length) H) := h ▸ call_len_seq
end
/-! ### comprehensions and loops whose invariants speak of the heap at their begin -/
theorem lcL {K : PySem.W.Frag} {a : Addr} {xs : List V} {g : TG} {tt : TT} {te : TE} {vs : List Nat} {σ : L2.St} {H1 : Hp} {D : Addr} {Qd : Hp → Prop} (Pv : Hp → Nat → Hp → Prop) (h0 : Pv H1 0 (upd H1 D (.lst []))) (hl : ∀ i H, i ≤ xs.length → Pv H1 i H → SqL K H a xs)
    (hs : ∀ i x H, xs[i]? = some x → Pv H1 i H → g x (wipe σ vs) H fun σ2 H2 => wipe σ2 vs = wipe σ vs ∧ tt σ2 H2 fun b H3 =>
      if b = true then te σ2 H3 fun y H4 => ∃ acc, H4 D = some (.lst acc) ∧ acc.length < sizeLine ∧ Pv H1 (i + 1) (upd H4 D (.lst (acc ++ [y]))) else Pv H1 (i + 1) H3) (hd : ∀ H, Pv H1 xs.length H → Qd H) :
    ∃ W : Nat → Nat → Hp → Prop, (∃ m, W 0 m (upd H1 D (.lst []))) ∧ ∀ i m H, W i m H →
      ((Itl K a).stop i H ∧ Qd H) ∨ ((Itl K a).go i H ∧ ∃ Nx : Hp → Prop, (∀ H', Nx H' → ∃ m', m' < m ∧ W (i + 1) m' H') ∧ ∀ x H', (Itl K a).yld i H x H' → g x (wipe σ vs) H' fun σ2 H2 => wipe σ2 vs = wipe σ vs ∧ tt σ2 H2 fun b H3 =>
        if b = true then te σ2 H3 fun y H4 => ∃ acc, H4 D = some (.lst acc) ∧ acc.length < sizeLine ∧ Nx (upd H4 D (.lst (acc ++ [y]))) else Nx H3) := lc_list (Pv H1) h0 hl hs hd
theorem lcR {lo : Int} {n : Nat} {g : TG} {tt : TT} {te : TE} {vs : List Nat} {σ : L2.St} {H1 : Hp} {D : Addr} {Qd : Hp → Prop} (Pv : Hp → Nat → Hp → Prop) (h0 : Pv H1 0 (upd H1 D (.lst [])))
    (hs : ∀ i H, i < n → Pv H1 i H → g (.int (lo + i)) (wipe σ vs) H fun σ2 H2 => wipe σ2 vs = wipe σ vs ∧ tt σ2 H2 fun b H3 =>
      if b = true then te σ2 H3 fun y H4 => ∃ acc, H4 D = some (.lst acc) ∧ acc.length < sizeLine ∧ Pv H1 (i + 1) (upd H4 D (.lst (acc ++ [y]))) else Pv H1 (i + 1) H3) (hd : ∀ H, Pv H1 n H → Qd H) :
    ∃ W : Nat → Nat → Hp → Prop, (∃ m, W 0 m (upd H1 D (.lst []))) ∧ ∀ i m H, W i m H →
      ((Itr lo n).stop i H ∧ Qd H) ∨ ((Itr lo n).go i H ∧ ∃ Nx : Hp → Prop, (∀ H', Nx H' → ∃ m', m' < m ∧ W (i + 1) m' H') ∧ ∀ x H', (Itr lo n).yld i H x H' → g x (wipe σ vs) H' fun σ2 H2 => wipe σ2 vs = wipe σ vs ∧ tt σ2 H2 fun b H3 =>
        if b = true then te σ2 H3 fun y H4 => ∃ acc, H4 D = some (.lst acc) ∧ acc.length < sizeLine ∧ Nx (upd H4 D (.lst (acc ++ [y]))) else Nx H3) := lc_range (Pv H1) h0 hs hd
theorem forL {K : PySem.W.Frag} {a : Addr} {xs : List V} {g : TG} {tb : TS} {D : Ends} {σ : L2.St} {H : Hp} (Pv : Hp → Nat → L2.St → Hp → Prop) (h0 : Pv H 0 σ H) (hl : ∀ i σ H', i ≤ xs.length → Pv H i σ H' → SqL K H' a xs)
    (hs : ∀ i x σ H', xs[i]? = some x → Pv H i σ H' → g x σ H' fun σ2 H2 => tb { D with nx := Pv H (i + 1), ct := Pv H (i + 1), bk := D.nx } σ2 H2) (hd : ∀ σ H', Pv H xs.length σ H' → D.nx σ H') :
    ∃ W : Nat → Nat → L2.St → Hp → Prop, (∃ m, W 0 m σ H) ∧ ∀ i m σ H, W i m σ H →
      ((Itl K a).stop i H ∧ D.nx σ H) ∨ ((Itl K a).go i H ∧ ∃ N : L2.St → Hp → Prop, (∀ σ' H', N σ' H' → ∃ m', m' < m ∧ W (i + 1) m' σ' H') ∧ ∀ x H', (Itl K a).yld i H x H' → g x σ H' fun σ2 H2 => tb { D with nx := N, ct := N, bk := D.nx } σ2 H2) := for_list (Pv H) h0 hl hs hd
theorem forR {lo : Int} {n : Nat} {g : TG} {tb : TS} {D : Ends} {σ : L2.St} {H : Hp} (Pv : Hp → Nat → L2.St → Hp → Prop) (h0 : Pv H 0 σ H)
    (hs : ∀ i σ H', i < n → Pv H i σ H' → g (.int (lo + i)) σ H' fun σ2 H2 => tb { D with nx := Pv H (i + 1), ct := Pv H (i + 1), bk := D.nx } σ2 H2) (hd : ∀ σ H', Pv H n σ H' → D.nx σ H') :
    ∃ W : Nat → Nat → L2.St → Hp → Prop, (∃ m, W 0 m σ H) ∧ ∀ i m σ H, W i m σ H →
      ((Itr lo n).stop i H ∧ D.nx σ H) ∨ ((Itr lo n).go i H ∧ ∃ N : L2.St → Hp → Prop, (∀ σ' H', N σ' H' → ∃ m', m' < m ∧ W (i + 1) m' σ' H') ∧ ∀ x H', (Itr lo n).yld i H x H' → g x σ H' fun σ2 H2 => tb { D with nx := N, ct := N, bk := D.nx } σ2 H2) := for_range (Pv H) h0 hs hd
/-- a call's answer when nothing but it matters: the heap by a name -/
theorem name_heap {P : Hp → Prop} {H : Hp} (h : ∀ H', H' = H → P H') : P H := h H rfl
/-! ### sizes of whole numbers -/
def Sm (n : Nat) (x : Int) : Prop := x.natAbs < 2 ^ n
theorem Sm.mono {a b : Nat} {x : Int} (h : Sm a x) (l : a ≤ b) : Sm b x := Nat.lt_of_lt_of_le h (Nat.pow_le_pow_right (by decide) l)
theorem Sm.mul {a b : Nat} {x y : Int} (h : Sm a x) (k : Sm b y) : Sm (a + b) (x * y) := wide_lt h k
theorem Sm.add {a b : Nat} {x y : Int} (h : Sm a x) (k : Sm b y) : Sm (a + b + 1) (x + y) := by
  have h1 := Sm.mono h (Nat.le_add_right a b)
  have h2 := Sm.mono k (Nat.le_add_left b a)
  unfold Sm at *
  rw [Nat.pow_succ]
  omega
theorem Sm.sub {a b : Nat} {x y : Int} (h : Sm a x) (k : Sm b y) : Sm (a + b + 1) (x - y) := by
  have h1 := Sm.mono h (Nat.le_add_right a b)
  have h2 := Sm.mono k (Nat.le_add_left b a)
  unfold Sm at *
  rw [Nat.pow_succ]
  omega
theorem Sm.neg {a : Nat} {x : Int} (h : Sm a x) : Sm a (-x) := by
  unfold Sm at *
  omega
theorem Sm.le {a : Nat} {x y : Int} (h : Sm a x) (l : y.natAbs ≤ x.natAbs) : Sm a y := Nat.lt_of_le_of_lt l h
theorem Sm.mulok {a b : Nat} {x y : Int} (h : Sm a x) (k : Sm b y) (ha : a ≤ 400000) (hb : b ≤ 400000) : CMulW x y := by
  refine wide_mul (a := a + 1) (b := b + 1) (Sm.mono h (Nat.le_succ a)) (Sm.mono k (Nat.le_succ b)) (Nat.succ_pos _) (Nat.succ_pos _) (by omega)
def CDivZ (_ j : Int) : Prop := j ≠ 0 ∧ Sm 8000 j
theorem op_fdivZ {X : Cx} : OpR X (binaryOp .FloorDiv) (rI CDivZ fun i j => .int (i.fdiv j)) := opI fun i j _ _ _ _ _ hc q => by
  have h : j.natAbs.log2 < 9000 := Nat.lt_of_lt_of_le (PySem.Flt.log2_lt_of (by decide) hc.2) (by decide)
  exact floordiv_int hc.1 q (.inl (PyProof.noPylong_of_log2 h))
/-! ### fractions -/
theorem gcd_turn {x y : Int} (hx : 0 ≤ x) (hy : 0 < y) : Int.gcd y (x % y) = Int.gcd x y := by
  obtain ⟨m, rfl⟩ := Int.eq_ofNat_of_zero_le hx
  obtain ⟨n, rfl⟩ := Int.eq_ofNat_of_zero_le (Int.le_of_lt hy)
  show Nat.gcd _ _ = Nat.gcd _ _
  rw [← Int.natCast_emod]
  simp only [Int.natAbs_natCast]
  rw [Nat.gcd_comm m n, Nat.gcd_rec n m, Nat.gcd_comm]
theorem gcd_abs (x y : Int) : Int.gcd (if x < 0 then -x else x) (if y < 0 then -y else y) = Int.gcd x y := by
  split <;> split <;> simp [Int.gcd]
theorem gcd_pos {t b : Int} (h : b ≠ 0) : (0 : Int) < (Int.gcd t b : Nat) := by
  have := Int.gcd_pos_of_ne_zero_right t h
  omega
/-- the divisor with the bottom's sign -/
def dvs (t b : Int) : Int := if b < 0 then -((Int.gcd t b : Nat) : Int) else ((Int.gcd t b : Nat) : Int)
theorem frac_num {t b : Int} (h : b ≠ 0) : t.fdiv (dvs t b) = (Rat.divInt t b).num := by
  have g0 := gcd_pos (t := t) h
  have gt : ((Int.gcd t b : Nat) : Int) ∣ t := Int.gcd_dvd_left t b
  rw [Rat.num_divInt, Int.gcd_comm b t]
  unfold dvs
  by_cases hb : b < 0
  · rw [if_pos hb, Int.sign_eq_neg_one_of_neg hb, Int.fdiv_neg (by omega), if_pos gt, Int.fdiv_eq_ediv_of_dvd gt]
    rw [Int.neg_mul, Int.one_mul, Int.neg_ediv_of_dvd gt]
  · rw [if_neg hb, Int.sign_eq_one_of_pos (by omega), Int.one_mul, Int.fdiv_eq_ediv_of_dvd gt]
theorem frac_den {t b : Int} (h : b ≠ 0) : b.fdiv (dvs t b) = ((Rat.divInt t b).den : Int) := by
  have g0 := gcd_pos (t := t) h
  have gb : ((Int.gcd t b : Nat) : Int) ∣ b := Int.gcd_dvd_right t b
  rw [Rat.den_divInt, if_neg h, Int.gcd_comm b t, Int.natCast_ediv]
  unfold dvs
  by_cases hb : b < 0
  · rw [if_pos hb, Int.fdiv_neg (by omega), if_pos gb, Int.fdiv_eq_ediv_of_dvd gb]
    rw [show ((b.natAbs : Nat) : Int) = -b by omega, Int.neg_ediv_of_dvd gb]
  · rw [if_neg hb, Int.fdiv_eq_ediv_of_dvd gb]
    rw [show ((b.natAbs : Nat) : Int) = b by omega]
theorem dvs_ne {t b : Int} (h : b ≠ 0) : dvs t b ≠ 0 := by
  have g0 := gcd_pos (t := t) h
  unfold dvs
  split <;> omega
theorem dvs_sm {t b : Int} {n : Nat} (h : b ≠ 0) (s : Sm n b) : Sm n (dvs t b) := by
  refine s.le ?_
  have hd : Int.gcd t b ∣ b.natAbs := Int.gcd_dvd_natAbs_right t b
  have hl := Nat.le_of_dvd (by omega) hd
  unfold dvs
  split <;> omega
theorem num_sm {t b : Int} {n : Nat} (h : b ≠ 0) (s : Sm n t) : Sm n (Rat.divInt t b).num := by
  refine s.le ?_
  have g0 : 0 < Int.gcd t b := Int.gcd_pos_of_ne_zero_right t h
  have gt : ((Int.gcd t b : Nat) : Int) ∣ t := Int.gcd_dvd_left t b
  rw [← frac_num h]
  have e : t.fdiv (dvs t b) * dvs t b = t := by
    rw [Int.mul_comm]
    refine Int.mul_fdiv_cancel_of_dvd ?_
    unfold dvs
    split
    · exact Int.neg_dvd.mpr gt
    · exact gt
  have e2 : t.natAbs = (t.fdiv (dvs t b)).natAbs * (dvs t b).natAbs := by
    rw [← Int.natAbs_mul, e]
  rw [e2]
  have : 0 < (dvs t b).natAbs := by
    have := dvs_ne (t := t) h
    omega
  exact Nat.le_mul_of_pos_right _ this
theorem den_sm {t b : Int} {n : Nat} (h : b ≠ 0) (s : Sm n b) : Sm n ((Rat.divInt t b).den : Int) := by
  refine s.le ?_
  rw [Rat.den_divInt, if_neg h]
  exact Nat.div_le_self _ _
/-- a fraction as it stands in a tuple -/
def pr (q : Rat) : List V := [.int q.num, .int (q.den : Int)]
theorem pr_ints (q : Rat) : pr q = [q.num, (q.den : Int)].map V.int := rfl
theorem den_pos (q : Rat) : (0 : Int) < (q.den : Int) := by
  have := q.den_nz
  omega
theorem num_gcd (q : Rat) : Int.gcd q.num (q.den : Int) = 1 := by
  have := q.reduced
  show Nat.gcd _ _ = 1
  simpa using this
theorem rat_inj {p q : Rat} : ([p.num, (p.den : Int)] = [q.num, (q.den : Int)]) ↔ p = q := by
  constructor
  · intro h
    simp only [List.cons.injEq, and_true] at h
    obtain ⟨h1, h2⟩ := h
    exact Rat.ext h1 (by omega)
  · rintro rfl
    rfl
theorem divInt_self (q : Rat) : Rat.divInt q.num (q.den : Int) = q := Rat.num_divInt_den q
theorem divInt_cross {t b : Int} (h : b ≠ 0) : (Rat.divInt t b).num * b = t * ((Rat.divInt t b).den : Int) := by
  have e : Rat.divInt (Rat.divInt t b).num ((Rat.divInt t b).den : Int) = Rat.divInt t b := divInt_self _
  exact (Rat.divInt_eq_divInt_iff (by have := den_pos (Rat.divInt t b); omega) h).mp e
theorem log_small {n : Int} (h0 : 0 ≤ n) (h1 : n < 1000) : n.natAbs.log2 < 1920 := by
  have h : n.natAbs < 2 ^ 10 := by omega
  exact Nat.lt_of_lt_of_le (PySem.Flt.log2_lt_of (by decide) h) (by decide)
/-! ### lists of whole numbers as data -/
theorem dpInts {K : PySem.W.Frag} {H : Hp} : ∀ ns : List Int, DpAll K H (ns.map V.int) (ns.map PyData.int)
  | [] => .nil
  | n :: ns => .cons (.int n) (dpInts ns)
theorem layInts : ∀ ns : List Int, PyData.canLayAll0 (ns.map PyData.int) = true
  | [] => rfl
  | n :: ns => by simp [PyData.canLayAll0, PyData.canLay0, layInts ns]
theorem depInts : ∀ ns : List Int, PyData.depthAll (ns.map PyData.int) = 0
  | [] => rfl
  | n :: ns => by simp [PyData.depthAll, PyData.depth, depInts ns]
theorem shapedL (ns : List Int) : SeqAt.shaped (.list (ns.map PyData.int)) = true := by
  show (PyData.canLayAll0 (ns.map PyData.int) && decide (PyData.depthAll (ns.map PyData.int) + 1 ≤ 64)) = true
  rw [layInts, depInts]; rfl
theorem shapedT (ns : List Int) : SeqAt.shaped (.tuple (ns.map PyData.int)) = true := by
  show (PyData.canLayAll0 (ns.map PyData.int) && decide (PyData.depthAll (ns.map PyData.int) + 1 ≤ 64)) = true
  rw [layInts, depInts]; rfl
theorem neqInts {K : PySem.W.Frag} {H : Hp} {Q : VK} {p q : Addr} {ns ms : List Int} (h1 : SqL K H p (ns.map V.int)) (h2 : SqL K H q (ms.map V.int)) (k : Q (.bl (!decide (ns = ms))) H) : rNeD K (.ref p) (.ref q) H Q := by
  refine ⟨_, _, .lst h1 (dpInts ns), .lst h2 (dpInts ms), shapedL ns, shapedL ms, ?_⟩
  have e : PyData.eqv (.list (ns.map PyData.int)) (.list (ms.map PyData.int)) = decide (ns = ms) := by
    rw [PyData.eqv]; exact PySem.W.ked_eqvAll ns ms
  rw [e]; exact k
theorem eqInts {K : PySem.W.Frag} {H : Hp} {Q : VK} {p q : Addr} {ns ms : List Int} (h1 : SqL K H p (ns.map V.int)) (h2 : SqL K H q (ms.map V.int)) (k : Q (.bl (decide (ns = ms))) H) : rEqD K (.ref p) (.ref q) H Q := by
  refine ⟨_, _, .lst h1 (dpInts ns), .lst h2 (dpInts ms), shapedL ns, shapedL ms, ?_⟩
  have e : PyData.eqv (.list (ns.map PyData.int)) (.list (ms.map PyData.int)) = decide (ns = ms) := by
    rw [PyData.eqv]; exact PySem.W.ked_eqvAll ns ms
  rw [e]; exact k
theorem neqIntsT {K : PySem.W.Frag} {H : Hp} {Q : VK} {p q : Addr} {ns ms : List Int} (h1 : SqT K H p (ns.map V.int)) (h2 : SqT K H q (ms.map V.int)) (k : Q (.bl (!decide (ns = ms))) H) : rNeD K (.ref p) (.ref q) H Q := by
  refine ⟨_, _, .tup h1 (dpInts ns), .tup h2 (dpInts ms), shapedT ns, shapedT ms, ?_⟩
  have e : PyData.eqv (.tuple (ns.map PyData.int)) (.tuple (ms.map PyData.int)) = decide (ns = ms) := by
    rw [PyData.eqv]; exact PySem.W.ked_eqvAll ns ms
  rw [e]; exact k
theorem eqIntsT {K : PySem.W.Frag} {H : Hp} {Q : VK} {p q : Addr} {ns ms : List Int} (h1 : SqT K H p (ns.map V.int)) (h2 : SqT K H q (ms.map V.int)) (k : Q (.bl (decide (ns = ms))) H) : rEqD K (.ref p) (.ref q) H Q := by
  refine ⟨_, _, .tup h1 (dpInts ns), .tup h2 (dpInts ms), shapedT ns, shapedT ms, ?_⟩
  have e : PyData.eqv (.tuple (ns.map PyData.int)) (.tuple (ms.map PyData.int)) = decide (ns = ms) := by
    rw [PyData.eqv]; exact PySem.W.ked_eqvAll ns ms
  rw [e]; exact k
/-! ### slices -/
theorem cutV_mem {xs : List V} {lo hi : Option Int} {v : V} (h : v ∈ cutV xs lo hi) : v ∈ xs := List.mem_of_mem_drop (List.mem_of_mem_take h)
theorem cutV_lo {xs : List V} {n : Int} (h0 : 0 ≤ n) (h1 : n ≤ xs.length) : cutV xs (some n) none = xs.drop n.toNat := by
  have e : HT.sIx xs.length 0 (some n) = n.toNat := by
    have q : n = ((n.toNat : Nat) : Int) := by omega
    rw [q, HT.sIx_nat]
    omega
  unfold cutV
  rw [e, HT.sIx_none]
  exact List.take_of_length_le (by rw [List.length_drop]; exact Nat.le_refl _)
theorem cutV_hi {xs : List V} {n : Int} (h0 : 0 ≤ n) (h1 : n ≤ xs.length) : cutV xs none (some n) = xs.take n.toNat := by
  have e : HT.sIx xs.length xs.length (some n) = n.toNat := by
    have q : n = ((n.toNat : Nat) : Int) := by omega
    rw [q, HT.sIx_nat]
    omega
  unfold cutV
  rw [e, HT.sIx_none]
  rfl
/-! ### what a thing is, as far as it matters: a whole number or of one of the other kinds -/
def others : List String := ["bool", "NoneType", "str", "tuple", "list", "dict"]
inductive Thing (K : PySem.W.Frag) (H : Hp) : V → Prop where
  | int (i : Int) : Thing K H (.int i)
  | odd {v : V} {t : String} (ty : TyX K H v (.type t)) (m : t ∈ others) (n : isI v = false) : Thing K H v
def spNumber (K : PySem.W.Frag) : Sp := fun vs H Q _ => ∃ v, vs = [v] ∧ Thing K H v ∧ Q (.bl (isI v)) H
/-! ### what a thing is stays so -/
theorem TyX.keep {K : PySem.W.Frag} {H H' : Hp} {v : V} {t : Value} (f : ∀ b o, v = .ref b → H b = some o → H' b = some o) (h : TyX K H v t) : TyX K H' v t := by
  cases h with
  | base b =>
    refine .base ?_
    cases b with
    | non => exact .non
    | bl x => exact .bl x
    | int i => exact .int i
    | str x => exact .str x
    | flt x => exact .flt x
    | lst e => exact .lst (f _ _ rfl e)
    | frz e => exact .frz (f _ _ rfl e)
    | tup e => exact .tup (f _ _ rfl e)
    | dK e => exact .dK (f _ _ rfl e)
    | dT e => exact .dT (f _ _ rfl e)
    | ins e a b c d g => exact .ins (f _ _ rfl e) a b c d g
  | byt b => exact .byt b
  | set e => exact .set (f _ _ rfl e)
  | kList e c => exact .kList e c
  | kTuple e c => exact .kTuple e c
  | kDict e c => exact .kDict e c
  | fTuple e => exact .fTuple (f _ _ rfl e)
  | fDict e => exact .fDict (f _ _ rfl e)
theorem Thing.keep {K : PySem.W.Frag} {H H' : Hp} {v : V} (f : ∀ b o, v = .ref b → H b = some o → H' b = some o) (h : Thing K H v) : Thing K H' v := by
  cases h with
  | int i => exact .int i
  | odd ty m n => exact .odd (TyX.keep f ty) m n
/-! ### + of two lists, the script among them; + of two truths -/
theorem list_add_any (l : Addr) (items : Array Value) (n : Nat) (sl : Array (Option Value)) (b : Addr) (items2 : Array Value) (n2 : Nat) (sl2 : Array (Option Value)) (hc0 : items.size + items2.size ≤ sizeLine) :
    Meets (Builtin.«list.__add__» ⟨[.ref l, .ref b], []⟩) (fun _ R s => s.heap.get? l = some { cls := .type "list", dict := none, data := .seq items n, slots := sl } ∧ s.heap.get? b = some { cls := .type "list", dict := none, data := .seq items2 n2, slots := sl2 } ∧ R (.ok (.ret (Value.ref s.heap.objs.size))) { s with heap := s.heap.push { cls := Value.type "list", data := Data.seq (items ++ items2) } }) :=
  .of_wp fun prog w A R s h => by
    obtain ⟨hp, g, d, tk, os⟩ := s
    obtain ⟨hl, hb, h⟩ := h
    have f3 := AutoSeq1.sub_list_list
    wp_walk using AutoSeq1.wpAny_loadPart' hl, AutoSeq1.wpAny_loadPart' hb
    exact ⟨_, rfl, h⟩
def rCatF (K : PySem.W.Frag) : R2 := fun x y H Q => ∃ l b xs zs, x = .ref l ∧ y = .ref b ∧ SqL K H l xs ∧ SqL K H b zs ∧ xs.length + zs.length ≤ sizeLine ∧ ∀ p, H p = none → Q (.ref p) (upd H p (.lst (xs ++ zs)))
theorem op_catF {X : Cx} : OpR X (binaryOp .Add) (rCatF X.K) := by
  intro pins s σ H x y v u Q I rx ry h
  obtain ⟨l, b, xs, zs, rfl, rfl, hH, hB, hz, q⟩ := h
  cases rx
  cases ry
  obtain ⟨its, r, ⟨o, n, e, hc, hd, hs⟩, _⟩ := I.list hH
  obtain ⟨its2, r2, ⟨o2, n2, e2, hc2, hd2, hs2⟩, _⟩ := I.list hB
  obtain ⟨oc, od, odt, osl⟩ := o
  obtain ⟨oc2, od2, odt2, osl2⟩ := o2
  simp only at hc hd hs hc2 hd2 hs2
  subst hc hd hs hc2 hd2 hs2
  have l1 := r.length
  have l2 := r2.length
  refine PySem.concat_meets ⟨_, e, rfl⟩ ⟨_, e2, rfl⟩ PySem.noFill_list_add PySem.seq_list_add PySem.F.slot_list_add PySem.F.entry_list_add (PySem.F.args_list_add_2 _ _) (list_add_any l its.toArray n osl b its2.toArray n2 osl2 (by rw [List.size_toArray, List.size_toArray]; omega)) ⟨e, e2, ?_⟩
  have ea : its.toArray ++ its2.toArray = (its ++ its2).toArray := by simp
  rw [ea]
  exact ⟨.ref _, _, I.lnew (t' := s.toks) (r.append r2) (by rw [List.length_append]; omega), rfl, q _ I.fresh⟩
theorem give_bb (a b : Bool) : Gives (Builtin.«int.__add__» ⟨[.bool a, .bool b], []⟩) (.int ((if a = true then (1 : Int) else 0) + (if b = true then (1 : Int) else 0))) := .of_wp fun M A E s Q h => by
  obtain ⟨hp, g, d, tk, os⟩ := s
  wp_walk
  exact ⟨_, rfl, h⟩
theorem op_add_bb {X : Cx} : OpR X (binaryOp .Add) (fun x y H Q => ∃ i k, x = .bl i ∧ y = .bl k ∧ Q (.int ((if i = true then (1 : Int) else 0) + (if k = true then (1 : Int) else 0))) H) := by
  intro pins s σ H x y v u Q I rx ry h
  obtain ⟨i, k, rfl, rfl, q⟩ := h
  cases rx
  cases ry
  exact binaryOp_gives (op := .Add) (T := "bool") rfl rfl PySem.F.fills_bool_add PySem.F.slot_bool_add PySem.F.entry_int_add (PySem.F.args_int_add_2 _ _) (give_bb i k) trivial ⟨.int _, H, I.tok _, ⟨_, rfl⟩, q⟩
/-! ### the drawn figures -/
def IsSt (xs : List V) : Prop := (∃ x, xs = [.int x]) ∨ ∃ x y z, xs = [.int x, .int y, .int z]
def spDigit : Sp := fun vs H Q _ => ∃ (p : Addr) (xs : List V) (b : Int), vs = [.ref p, .int b] ∧ H p = some (.lst xs) ∧ IsSt xs ∧ 0 < b ∧ b < 1073741824 ∧
  ∀ H' d xs', Frm p H H' → H' p = some (.lst xs') → IsSt xs' → 0 ≤ d → d < b → Q (.int d) H'
def spGcd : Sp := fun vs H Q _ => ∃ a b : Int, vs = [.int a, .int b] ∧ 0 ≤ a ∧ 0 ≤ b ∧ Q (.int ((Int.gcd a b : Nat) : Int)) H
def spFraction (K : PySem.W.Frag) (C : Addr) : Sp := fun vs H Q E => ∃ v1 v2, vs = [v1, v2] ∧ Thing K H v1 ∧ Thing K H v2 ∧
  ((∃ t b : Int, v1 = .int t ∧ v2 = .int b ∧ b ≠ 0 ∧ Sm 8000 b ∧ ∀ p, H p = none → Q (.ref p) (upd H p (.tup (pr (Rat.divInt t b))))) ∨
   ((isI v1 = false ∨ isI v2 = false ∨ v2 = .int 0) ∧ E (.ref C) none H))
theorem den_ne (a : Rat) : (a.den : Int) ≠ 0 := by
  have := den_pos a
  omega
theorem add_is (a b : Rat) : Rat.divInt (a.num * (b.den : Int) + b.num * (a.den : Int)) ((a.den : Int) * (b.den : Int)) = a + b := by
  rw [← Rat.divInt_add_divInt _ _ (den_ne a) (den_ne b), divInt_self, divInt_self]
theorem sub_is (a b : Rat) : Rat.divInt (a.num * (b.den : Int) - b.num * (a.den : Int)) ((a.den : Int) * (b.den : Int)) = a - b := by
  rw [← Rat.divInt_sub_divInt _ _ (den_ne a) (den_ne b), divInt_self, divInt_self]
theorem mul_is (a b : Rat) : Rat.divInt (a.num * b.num) ((a.den : Int) * (b.den : Int)) = a * b := by
  rw [← Rat.divInt_mul_divInt, divInt_self, divInt_self]
theorem mul_ne {a b : Int} (h : a ≠ 0) (k : b ≠ 0) : a * b ≠ 0 := Int.mul_ne_zero h k
/-! ### sums and products shortened crosswise -/
theorem mul_num (a b : Rat) : a.num.fdiv ((a.num.natAbs.gcd b.den : Nat) : Int) * b.num.fdiv ((b.num.natAbs.gcd a.den : Nat) : Int) = (a * b).num := by
  have e : (a * b).num = a.num / ((a.num.natAbs.gcd b.den : Nat) : Int) * (b.num / ((b.num.natAbs.gcd a.den : Nat) : Int)) := by
    show (Rat.mul a b).num = _
    unfold Rat.mul
    simp only [Int.divExact_eq_ediv]
  rw [e, Int.fdiv_eq_ediv_of_nonneg _ (Int.natCast_nonneg _), Int.fdiv_eq_ediv_of_nonneg _ (Int.natCast_nonneg _)]
theorem mul_den (a b : Rat) : (a.den : Int).fdiv ((b.num.natAbs.gcd a.den : Nat) : Int) * (b.den : Int).fdiv ((a.num.natAbs.gcd b.den : Nat) : Int) = ((a * b).den : Int) := by
  have e : (a * b).den = a.den / (b.num.natAbs.gcd a.den) * (b.den / (a.num.natAbs.gcd b.den)) := by
    show (Rat.mul a b).den = _
    unfold Rat.mul
    simp only [Nat.divExact_eq_div]
  rw [e, Int.fdiv_eq_ediv_of_nonneg _ (Int.natCast_nonneg _), Int.fdiv_eq_ediv_of_nonneg _ (Int.natCast_nonneg _)]
  rw [Int.natCast_mul, Int.natCast_ediv, Int.natCast_ediv]
/-- the sum's top before it is shortened -/
def sumTop (a c : Rat) : Int := a.num * ((c.den / a.den.gcd c.den : Nat) : Int) + c.num * ((a.den / a.den.gcd c.den : Nat) : Int)
def sumRest (a c : Rat) : Nat := (sumTop a c).natAbs.gcd (a.den.gcd c.den)
theorem sum_facts (a c : Rat) : (sumTop a c).fdiv (sumRest a c : Int) = (a + c).num ∧ ((c.den / a.den.gcd c.den : Nat) : Int) * ((a.den / sumRest a c : Nat) : Int) = ((a + c).den : Int) := by
  have d0 : 0 < a.den.gcd c.den := Nat.gcd_pos_of_pos_left _ a.den_pos
  have aux := Rat.add.aux a c (g := a.den.gcd c.den) rfl rfl rfl
  obtain ⟨x, hx⟩ := Nat.gcd_dvd_left a.den c.den
  obtain ⟨y, hy⟩ := Nat.gcd_dvd_right a.den c.den
  have ex : a.den / a.den.gcd c.den = x := by conv => lhs; lhs; rw [hx]
                                              exact Nat.mul_div_cancel_left _ d0
  have ey : c.den / a.den.gcd c.den = y := by conv => lhs; lhs; rw [hy]
                                              exact Nat.mul_div_cancel_left _ d0
  have er : sumRest a c = (sumTop a c).natAbs.gcd (x * c.den) := by
    unfold sumRest
    rw [← ex]
    exact aux
  have hz : (x * c.den : Nat) ≠ 0 := by
    have h1 := a.den_pos
    have h2 := c.den_pos
    intro z
    rcases Nat.mul_eq_zero.mp z with z | z
    · rw [z, Nat.mul_zero] at hx; omega
    · omega
  have hv : Rat.divInt (sumTop a c) ((x * c.den : Nat) : Int) = a + c := by
    rw [← add_is a c]
    have d1 : ((a.den.gcd c.den : Nat) : Int) ≠ 0 := by omega
    rw [← Rat.divInt_mul_right d1]
    have hx' : (a.den : Int) = ((a.den.gcd c.den : Nat) : Int) * (x : Int) := by exact_mod_cast hx
    have hy' : (c.den : Int) = ((a.den.gcd c.den : Nat) : Int) * (y : Int) := by exact_mod_cast hy
    have e1 : sumTop a c * ((a.den.gcd c.den : Nat) : Int) = a.num * (c.den : Int) + c.num * (a.den : Int) := by
      unfold sumTop
      rw [ex, ey]
      generalize ((a.den.gcd c.den : Nat) : Int) = g at hx' hy'
      rw [hx', hy']
      grind
    have e2 : ((x * c.den : Nat) : Int) * ((a.den.gcd c.den : Nat) : Int) = (a.den : Int) * (c.den : Int) := by
      rw [Int.natCast_mul]
      generalize ((a.den.gcd c.den : Nat) : Int) = g at hx' hy'
      rw [hx']
      grind
    rw [e1, e2]
  have hzi : ((x * c.den : Nat) : Int) ≠ 0 := by omega
  have ed : dvs (sumTop a c) ((x * c.den : Nat) : Int) = (sumRest a c : Int) := by
    unfold dvs
    rw [if_neg (by omega), er]; rfl
  have n1 := frac_num (t := sumTop a c) hzi
  have n2 := frac_den (t := sumTop a c) hzi
  rw [hv, ed] at n1 n2
  refine ⟨n1, ?_⟩
  rw [← n2, Int.fdiv_eq_ediv_of_nonneg _ (Int.natCast_nonneg _), ← Int.natCast_ediv, ← Int.natCast_mul, ey]
  congr 1
  obtain ⟨z, hz2⟩ : sumRest a c ∣ a.den.gcd c.den := Nat.gcd_dvd_right _ _
  have r0 : 0 < sumRest a c := Nat.gcd_pos_of_pos_right _ d0
  have e3 : a.den / sumRest a c = z * x := by
    conv => lhs; lhs; rw [hx, hz2, Nat.mul_assoc]
    exact Nat.mul_div_cancel_left _ r0
  have e4 : x * c.den / sumRest a c = x * z * y := by
    have : x * c.den = sumRest a c * (x * z * y) := by
      conv => lhs; rw [hy, hz2]
      simp only [Nat.mul_assoc, Nat.mul_comm, Nat.mul_left_comm]
    rw [this]
    exact Nat.mul_div_cancel_left _ r0
  rw [e3, e4]
  simp only [Nat.mul_assoc, Nat.mul_comm, Nat.mul_left_comm]
theorem inv_pos {b : Rat} (h : 0 < b.num) : (b⁻¹).num = (b.den : Int) ∧ ((b⁻¹).den : Int) = b.num := by
  show (Rat.inv b).num = _ ∧ ((Rat.inv b).den : Int) = _
  unfold Rat.inv
  rw [dif_neg (by omega), dif_pos h]
  exact ⟨rfl, by show ((b.num.natAbs : Nat) : Int) = b.num; omega⟩
theorem inv_neg {b : Rat} (h : b.num < 0) : (b⁻¹).num = -(b.den : Int) ∧ ((b⁻¹).den : Int) = -b.num := by
  show (Rat.inv b).num = _ ∧ ((Rat.inv b).den : Int) = _
  unfold Rat.inv
  rw [dif_pos h]
  exact ⟨rfl, by show ((b.num.natAbs : Nat) : Int) = -b.num; omega⟩
theorem fdiv_nat (m n : Nat) : (m : Int).fdiv (n : Int) = ((m / n : Nat) : Int) := by
  rw [Int.fdiv_eq_ediv_of_nonneg _ (Int.natCast_nonneg _), ← Int.natCast_ediv]
theorem gcd_absN (x : Int) (n : Nat) : Int.gcd (if x < 0 then -x else x) (n : Int) = x.natAbs.gcd n := by
  split <;> simp [Int.gcd]
def spSummed : Sp := fun vs H Q _ => ∃ (p : Addr) (a c : Rat), vs = [.ref p, .int c.num, .int (c.den : Int)] ∧ H p = some (.tup (pr a)) ∧ Sm 1900 a.num ∧ Sm 1900 (a.den : Int) ∧ Sm 1900 c.num ∧ Sm 1900 (c.den : Int) ∧ ∀ n, H n = none → Q (.ref n) (upd H n (.tup (pr (a + c))))
theorem Sm.div {n m k : Nat} (h : Sm n (m : Int)) : Sm n ((m / k : Nat) : Int) := h.le (show m / k ≤ m from Nat.div_le_self m k)
theorem Sm.ediv {n k : Nat} {x : Int} (h : Sm n x) : Sm n (x / (k : Int)) := h.le (Int.natAbs_ediv_le_natAbs x k)
theorem Sm.fdiv {n k : Nat} {x : Int} (h : Sm n x) : Sm n (x.fdiv (k : Int)) := by
  rw [Int.fdiv_eq_ediv_of_nonneg _ (Int.natCast_nonneg _)]
  exact Sm.ediv h
local macro_rules | `(tactic| walk_at "sm") => `(tactic| first
  | assumption
  | exact (show Sm 64 _ by unfold Sm; decide)
  | (refine' Sm.mul ?m1 ?m2; (case m1 => walk_at "sm"); (case m2 => walk_at "sm"))
  | (refine' Sm.add ?m1 ?m2; (case m1 => walk_at "sm"); (case m2 => walk_at "sm"))
  | (refine' Sm.sub ?m1 ?m2; (case m1 => walk_at "sm"); (case m2 => walk_at "sm"))
  | (refine' Sm.neg ?m1; (case m1 => walk_at "sm"))
  | fail)
local macro_rules | `(tactic| walk_at "ne") => `(tactic| first
  | assumption
  | exact Ne.symm (by assumption)
  | (refine' new_ne ?n1 ?n2; (case n1 => assumption); (case n2 => walk_at "hp"))
  | (refine' Ne.symm (new_ne ?n1 ?n2); (case n1 => assumption); (case n2 => walk_at "hp"))
  | fail)
local macro_rules | `(tactic| walk_at "hp") => `(tactic| first
  | assumption
  | exact upd_same
  | (refine' upd_old ?na ?ho; (case na => assumption); (case ho => walk_at "hp"))
  | (refine' upd_old2 ?na ?ho; (case na => assumption); (case ho => walk_at "hp"))
  | (refine' upd_oth ?na ?ho; (case na => walk_at "ne"); (case ho => walk_at "hp"))
  | (refine' Same.get ?na ?ho; (case na => assumption); (case ho => walk_at "hp"))
  | (refine' Frm.get ?na ?nb ?ho; (case na => assumption); (case nb => walk_at "ne"); (case ho => walk_at "hp"))
  | fail)
local macro_rules | `(tactic| walk_at "fr") => `(tactic| first
  | assumption
  | exact Frm.refl
  | exact Same.refl _
  | (refine' Frm.upd2 ?f; (case f => walk_at "fr"))
  | (refine' Frm.new ?f ?n; (case n => assumption); (case f => walk_at "fr"))
  | (refine' Frm.new2 ?f ?n; (case n => assumption); (case f => walk_at "fr"))
  | (refine' Frm.own ?f ?n; (case n => assumption); (case f => walk_at "fr"))
  | (refine' Frm.trans ?f ?g; (case g => first | assumption | exact Same.frm (by assumption)); (case f => walk_at "fr"))
  | (refine' Same.new ?f ?n; (case n => assumption); (case f => walk_at "fr"))
  | (refine' Same.new2 ?f ?n; (case n => assumption); (case f => walk_at "fr"))
  | (refine' Same.own ?f ?n; (case n => assumption); (case f => walk_at "fr"))
  | (refine' Same.trans ?f ?g; (case g => assumption); (case f => walk_at "fr"))
  | (refine' Same.byFrm ?f ?g ?n; (case g => assumption); (case n => assumption); (case f => walk_at "fr"))
  | fail)
/-- one step of a reading, where its form alone tells it -/
local macro_rules | `(tactic| walk_at "g") => `(tactic| first
  | refine ⟨_, rfl, ?_⟩
  | refine ⟨_, _, rfl, rfl, ?_⟩
  | refine ⟨rfl, ?_⟩
  | refine ⟨sz rfl, fun _ _ => ?_⟩
  | refine ⟨.inl ⟨rfl, _, SqL.of (by walk_at "hp")⟩, ?_⟩
  | refine ⟨_, _, rfl, .inl (SqL.of (by walk_at "hp")), ?_⟩
  | refine ⟨_, _, rfl, .inr (SqT.of (by walk_at "hp")), ?_⟩
  | refine ⟨_, _, rfl, SqL.of (by walk_at "hp"), fun _ _ => ?_⟩
  | refine ⟨_, _, _, _, rfl, rfl, SqL.of (by walk_at "hp"), rfl, ?_⟩
  | refine ⟨_, _, _, _, rfl, rfl, SqT.of (by walk_at "hp"), rfl, ?_⟩
  | refine ⟨(show (0 : Int) < _ by first | decide | assumption), ?_⟩
  | refine ⟨⟨(show (0 : Int) < _ by first | decide | assumption), by first | decide | assumption⟩, ?_⟩
  | refine ⟨⟨(show (0 : Int) ≤ _ by decide), by decide, by decide⟩, ?_⟩
  | refine ⟨_, _, _, _, rfl, rfl, by walk_at "hp", by walk_at "hp", sz rfl, ?_⟩
  | refine ⟨_, _, _, _, rfl, rfl, by walk_at "hp", rfl, ?_⟩
  | refine ⟨(show CMul _ _ by first | exact .inl ⟨by decide, by decide⟩ | exact .inr ⟨by decide, by decide⟩ | exact .inl ⟨by omega, by omega⟩ | exact .inr ⟨by omega, by omega⟩), ?_⟩
  | refine ⟨(show CMulW _ _ from Sm.mulok (by walk_at "sm") (by walk_at "sm") (by decide) (by decide)), ?_⟩
  | refine ⟨(show CDivZ _ _ from ⟨by first | assumption | omega, Sm.mono (by walk_at "sm") (by decide)⟩), ?_⟩
  | fail)
/-- a drawn figure: a call of digit -/
local macro_rules | `(tactic| walk_at "dg") => `(tactic| (refine ⟨_, _, _, rfl, by walk_at "hp", by assumption, by first | decide | omega, by first | decide | omega, fun _ _ _ _ _ _ _ _ => ?_⟩))
/-- a list's item at a drawn place -/
local macro_rules | `(tactic| walk_at "ixI") => `(tactic| (refine' ixI (SqL.of ?h) ?h0 ?h1 ?al (fun _ _ => ?k); (case h => walk_at "hp"); (case al => rfl); (case h0 => first | assumption | omega); (case h1 => first | assumption | (simp only [List.length]; omega))))
def spCell (K : PySem.W.Frag) : Sp := fun vs H Q _ => ∃ (a : Addr) (ns : List Int) (k : Int), vs = [.ref a, .int k] ∧ SqL K H a (ns.map V.int) ∧ 0 ≤ k ∧ ∀ n, (n ∈ ns ∨ n = 0) → Q (.int n) H
def spBin (f : Rat → Rat → Rat) : Sp := fun vs H Q _ => ∃ (p r : Addr) (a b : Rat), vs = [.ref p, .ref r] ∧ H p = some (.tup (pr a)) ∧ H r = some (.tup (pr b)) ∧ Sm 1900 a.num ∧ Sm 1900 (a.den : Int) ∧ Sm 1900 b.num ∧ Sm 1900 (b.den : Int) ∧ ∀ n, H n = none → Q (.ref n) (upd H n (.tup (pr (f a b))))
def spLess : Sp := fun vs H Q _ => ∃ (p r : Addr) (a b : Rat), vs = [.ref p, .ref r] ∧ H p = some (.tup (pr a)) ∧ H r = some (.tup (pr b)) ∧ Sm 8000 a.num ∧ Sm 8000 (a.den : Int) ∧ Sm 8000 b.num ∧ Sm 8000 (b.den : Int) ∧ Q (.bl (decide (a.num * (b.den : Int) < b.num * (a.den : Int)))) H
def spFloor : Sp := fun vs H Q _ => ∃ (p : Addr) (a : Rat), vs = [.ref p] ∧ H p = some (.tup (pr a)) ∧ Sm 8000 (a.den : Int) ∧ Q (.int (a.num.fdiv (a.den : Int))) H
def spLow : Sp := fun vs H Q _ => ∃ t b : Int, vs = [.int t, .int b] ∧ 0 < b ∧ Sm 8000 b ∧ ∀ n, H n = none → Q (.ref n) (upd H n (.tup (pr (Rat.divInt t b))))
/-! ### sums and products -/
def sumQ : List Rat → Rat
  | [] => 0
  | q :: qs => q + sumQ qs
def prodQ : List Rat → Rat
  | [] => 1
  | q :: qs => q * prodQ qs
theorem sumQ_snoc (qs : List Rat) (q : Rat) : sumQ (qs ++ [q]) = sumQ qs + q := by
  induction qs with
  | nil => show q + 0 = 0 + q; grind
  | cons x xs ih => show x + sumQ (xs ++ [q]) = x + sumQ xs + q; rw [ih]; grind
theorem prodQ_snoc (qs : List Rat) (q : Rat) : prodQ (qs ++ [q]) = prodQ qs * q := by
  induction qs with
  | nil => show q * 1 = 1 * q; grind
  | cons x xs ih => show x * prodQ (xs ++ [q]) = x * prodQ xs * q; rw [ih]; grind
theorem sumQ_app (qs rs : List Rat) : sumQ (qs ++ rs) = sumQ qs + sumQ rs := by
  induction qs with
  | nil => show sumQ rs = 0 + sumQ rs; grind
  | cons x xs ih => show x + sumQ (xs ++ rs) = x + sumQ xs + sumQ rs; rw [ih]; grind
theorem prodQ_app (qs rs : List Rat) : prodQ (qs ++ rs) = prodQ qs * prodQ rs := by
  induction qs with
  | nil => show prodQ rs = 1 * prodQ rs; grind
  | cons x xs ih => show x * prodQ (xs ++ rs) = x * prodQ xs * prodQ rs; rw [ih]; grind
theorem sumQ_perm {qs rs : List Rat} (h : qs.Perm rs) : sumQ qs = sumQ rs := by
  induction h with
  | nil => rfl
  | cons x _ ih => show x + _ = x + _; rw [ih]
  | swap x y l => show y + (x + sumQ l) = x + (y + sumQ l); grind
  | trans _ _ h1 h2 => exact h1.trans h2
theorem prodQ_perm {qs rs : List Rat} (h : qs.Perm rs) : prodQ qs = prodQ rs := by
  induction h with
  | nil => rfl
  | cons x _ ih => show x * _ = x * _; rw [ih]
  | swap x y l => show y * (x * prodQ l) = x * (y * prodQ l); grind
  | trans _ _ h1 h2 => exact h1.trans h2
theorem sumQ_mul (c : Rat) (qs : List Rat) : sumQ (qs.map (c * ·)) = c * sumQ qs := by
  induction qs with
  | nil => show (0 : Rat) = c * 0; grind
  | cons x xs ih => show c * x + sumQ (xs.map (c * ·)) = c * (x + sumQ xs); rw [ih]; grind
/-- both parts below 2 ^ n -/
def Sz (n : Nat) (q : Rat) : Prop := Sm n q.num ∧ Sm n (q.den : Int)
theorem Sz.mono {a b : Nat} {q : Rat} (h : Sz a q) (l : a ≤ b) : Sz b q := ⟨h.1.mono l, h.2.mono l⟩
theorem Sm.add1 {a : Nat} {x y : Int} (h : Sm a x) (k : Sm a y) : Sm (a + 1) (x + y) := by
  unfold Sm at *
  rw [Nat.pow_succ]
  omega
theorem Sz.add {n m : Nat} {a b : Rat} (h : Sz n a) (k : Sz m b) : Sz (n + m + 1) (a + b) := by
  rw [← add_is]
  refine ⟨num_sm (mul_ne (den_ne a) (den_ne b)) (Sm.add1 (Sm.mul h.1 k.2) ?_), (den_sm (mul_ne (den_ne a) (den_ne b)) (Sm.mul h.2 k.2)).mono (by omega)⟩
  have := Sm.mul k.1 h.2
  rw [Nat.add_comm] at this
  exact this
theorem Sz.mul {n m : Nat} {a b : Rat} (h : Sz n a) (k : Sz m b) : Sz (n + m) (a * b) := by
  rw [← mul_is]
  exact ⟨num_sm (mul_ne (den_ne a) (den_ne b)) (Sm.mul h.1 k.1), den_sm (mul_ne (den_ne a) (den_ne b)) (Sm.mul h.2 k.2)⟩
theorem sz0 : Sz 1 0 := ⟨by unfold Sm; decide, by unfold Sm; decide⟩
theorem sz1 : Sz 1 1 := ⟨by unfold Sm; decide, by unfold Sm; decide⟩
/-- a list of fractions: at l stand the places ps, at each p the fraction f p -/
def FL (K : PySem.W.Frag) (H : Hp) (l : Addr) (ps : List Addr) (f : Addr → Rat) : Prop := SqL K H l (ps.map V.ref) ∧ ps.length ≤ 14 ∧ ∀ p ∈ ps, H p = some (.tup (pr (f p))) ∧ Sz 43 (f p)
theorem FL.same {K : PySem.W.Frag} {H H' : Hp} {l : Addr} {ps : List Addr} {f : Addr → Rat} (s : Same H H') (h : FL K H l ps f) : FL K H' l ps f := ⟨s.seq h.1, h.2.1, fun p hp => ⟨s _ _ (h.2.2 p hp).1, (h.2.2 p hp).2⟩⟩
def spFold (K : PySem.W.Frag) (F : List Rat → Rat) : Sp := fun vs H Q _ => ∃ (l : Addr) (ps : List Addr) (f : Addr → Rat), vs = [.ref l] ∧ FL K H l ps f ∧
  ∀ H' r, Same H H' → H' r = some (.tup (pr (F (ps.map f)))) → Sz 700 (F (ps.map f)) → Q (.ref r) H'
theorem take_snoc {α β : Type} {l : List α} {i : Nat} {x : α} (h : l[i]? = some x) (f : α → β) : (l.take (i + 1)).map f = (l.take i).map f ++ [f x] := by
  rw [List.take_add_one, h, List.map_append]
  rfl
section
variable {P : Program} {w : World} {K : PySem.W.Frag} {mg : Str → Option Value} {base : Heap}
theorem ok_l_digit (T : Txt K mg) : FnOk P w K mg base CX0 1 T.a_l_digit T.d_l_digit ["_law_state", "_law_base"] spDigit := by
  refine T.F_l_digit.ok sc_l_digit (fun vs H Q E h => ?_) (fun cdv A outer s H vs Q E hr h => ?_)
  · obtain ⟨p, xs, b, rfl, _⟩ := h
    rfl
  · obtain ⟨p, xs, b, rfl, hp, hx, b0, b1, q⟩ := h
    refine ⟨_, (pss_cons (ps_if (pt_cmpR op_eq (pe_callB call_len_seq (by rfl) T.m_len (by decide +kernel) (pa_cons (pv 0) pa_nil)) pe_int (nomark _)) (pss_one (ps_expr (pe_bm PySem.F.plainAttrs_list PySem.F.slot_list_extend PySem.F.type_list_extend mt_extend (pv 0) (pa_cons (pe_lst (pa_cons (pe_op op_mod (pe_ix ix_list (pv 0) pe_int (fun _ _ => rfl)) pe_int) (pa_cons pe_int pa_nil))) pa_nil)))) pss_nil)
      (pss_cons (ps_if (pt_cmpR op_ge (pe_ix ix_list (pv 0) pe_int (fun _ _ => rfl)) (pv 1) (nomark _)) (pss_cons (ps_set (i := 2) sc_l_digit.nd rfl (Or.inl rfl) (pe_op op_mod (pe_ix ix_list (pv 0) pe_int (fun _ _ => rfl)) (pv 1)))
      (pss_cons (ps_asg (pe_op op_fdiv (pe_ix ix_list (pv 0) pe_int (fun _ _ => rfl)) (pv 1)) (pg_sub (pv 0) pe_int set_list))
      (pss_one (ps_ret (pv 2))))) pss_nil)
      (pss_cons (ps_asg (pe_op op_add (pe_ix ix_list (pv 0) pe_int (fun _ _ => rfl)) pe_int) (pg_sub (pv 0) pe_int set_list))
      (pss_cons (ps_set (i := 3) sc_l_digit.nd rfl (Or.inl rfl) (pe_op op_mod (pe_op op_mul (pe_op op_add (pe_op op_add (pe_ix ix_list (pv 0) pe_int (fun _ _ => rfl)) (pe_op op_mul pe_int (pe_ix ix_list (pv 0) pe_int (fun _ _ => rfl)))) pe_int) pe_int) pe_int))
      (pss_cons (ps_set (i := 3) sc_l_digit.nd rfl (Or.inl rfl) (pe_op op_mod (pe_op op_mul (pv 3) (pe_op op_add (pe_op op_fdiv (pv 3) pe_int) pe_int)) pe_int))
      (pss_one (ps_ret (pe_op op_mod (pe_op op_mod (pe_op op_mul (pv 3) (pe_op op_add (pe_op op_fdiv (pv 3) pe_int) pe_int)) pe_int) (pv 1))))))))), ?_⟩
    rcases hx with ⟨x, rfl⟩ | ⟨x, y, z, rfl⟩
    all_goals
      repeat' walk_at "g"
      refine ite2 (fun c => ?_) (fun c => ?_)
      · repeat' walk_at "g"
        exact q _ _ _ (by walk_at "fr") upd_same (.inr ⟨_, _, _, rfl⟩) (Int.emod_nonneg _ (by omega)) (Int.emod_lt_of_pos _ b0)
      · repeat' walk_at "g"
        exact q _ _ _ (by walk_at "fr") upd_same (.inr ⟨_, _, _, rfl⟩) (Int.emod_nonneg _ (by omega)) (Int.emod_lt_of_pos _ b0)
theorem ok_is_number (T : Txt K mg) : FnOk P w K mg base CX0 1 T.a_is_number T.d_is_number ["thing"] (spNumber K) := by
  refine T.F_is_number.ok sc_is_number (fun vs H Q E h => ?_) (fun cdv A outer s H vs Q E hr h => ?_)
  · obtain ⟨v, rfl, _⟩ := h
    rfl
  · obtain ⟨v, rfl, hv, q⟩ := h
    refine ⟨_, (pss_one (ps_ret (pe_and (pe_callB call_isi (by rfl) T.m_isinstance (by decide +kernel) (pa_cons (pv 0) (pa_cons (pe_bltn (v := .ty "int") (by rfl) T.m_int (by decide +kernel) rfl) pa_nil))) (pe_one (pe_not (pe_callB call_isi (by rfl) T.m_isinstance (by decide +kernel) (pa_cons (pv 0) (pa_cons (pe_bltn (v := .ty "bool") (by rfl) T.m_bool (by decide +kernel) rfl) pa_nil)))))))), ?_⟩
    repeat' walk_at "g"
    cases hv with
    | int i =>
      refine ⟨_, _, _, _, true, rfl, .ty _, .base (.int i), kit_ty (by decide +kernel), _, rfl, ifT rfl ?_⟩
      repeat' walk_at "g"
      exact ⟨_, _, _, _, false, rfl, .ty _, .base (.int i), kit_ty (by decide +kernel), _, rfl, q⟩
    | @odd _ t ty m n =>
      rw [n] at q
      simp only [others, List.mem_cons, List.not_mem_nil, or_false] at m
      rcases m with rfl | rfl | rfl | rfl | rfl | rfl
      · refine ⟨_, _, _, _, true, rfl, .ty _, ty, kit_ty (by decide +kernel), _, rfl, ifT rfl ?_⟩
        repeat' walk_at "g"
        exact ⟨_, _, _, _, true, rfl, .ty _, ty, kit_ty (by decide +kernel), _, rfl, q⟩
      all_goals exact ⟨_, _, _, _, false, rfl, .ty _, ty, kit_ty (by decide +kernel), _, rfl, ifF rfl q⟩
theorem ok_common_divisor (T : Txt K mg) : FnOk P w K mg base CX0 1 T.a_common_divisor T.d_common_divisor ["one", "other"] spGcd := by
  refine T.F_common_divisor.ok sc_common_divisor (fun vs H Q E h => ?_) (fun cdv A outer s H vs Q E hr h => ?_)
  · obtain ⟨a, b, rfl, _⟩ := h
    rfl
  · obtain ⟨a, b, rfl, a0, b0, q⟩ := h
    refine ⟨_, (pss_cons (ps_while PassesOwn.never (pt_cmpR op_gt (pv 1) pe_int (nomark _)) (pss_one (ps_par (i := 0) (j := 1) (by rfl) sc_common_divisor.nd rfl rfl (by decide) rfl rfl (pa_cons (pv 1) (pa_cons (pe_op op_mod (pv 0) (pv 1)) pa_nil)) (by rfl))))
      (pss_one (ps_ret (pv 0)))), ?_⟩
    refine while_by (fun σ H' => ∃ x y : Int, σ = [some (.int x), some (.int y)] ∧ 0 ≤ x ∧ 0 ≤ y ∧ Int.gcd x y = Int.gcd a b ∧ H' = H) (fun σ _ => match σ with | [_, some (.int y)] => y.toNat | _ => 0) ⟨a, b, rfl, a0, b0, rfl, rfl⟩ ?_ ?_
    · rintro σ H' ⟨x, y, rfl, x0, y0, e, rfl⟩
      repeat' walk_at "g"
      refine ifC (fun c => ?_) (fun c => ?_)
      · have c := of_decide_eq_true c
        refine ⟨_, rfl, _, rfl, _, rfl, _, _, rfl, rfl, c, _, _, rfl, ⟨_, _, rfl, y0, Int.emod_nonneg _ (by omega), (gcd_turn x0 c).trans e, rfl⟩, ?_⟩
        show (x % y).toNat < y.toNat
        have := Int.emod_lt_of_pos x c
        have := Int.emod_nonneg x (show y ≠ 0 by omega)
        omega
      · have c := of_decide_eq_false c
        have y1 : y = 0 := by omega
        subst y1
        rw [← e] at q
        refine ⟨_, rfl, ?_⟩
        have e2 : ((Int.gcd x 0 : Nat) : Int) = x := by
          rw [Int.gcd_zero_right]
          omega
        rw [e2] at q
        exact q
    · exact fun σ H Q Q' k ⟨v, e, i, j, e1, e2, b, eb, q⟩ => ⟨v, e, i, j, e1, e2, b, eb, k _ _ q⟩
theorem ok_fraction (T : Txt K mg) : FnOk P w K mg base (L2.CX P w) 2 T.a_fraction T.d_fraction ["top", "bottom"] (spFraction K T.c_NoFraction) := by
  refine T.F_fraction.ok sc_fraction (fun vs H Q E h => ?_) (fun cdv A outer s H vs Q E hr h => ?_)
  · obtain ⟨a, b, rfl, _⟩ := h
    rfl
  · obtain ⟨v1, v2, rfl, t1, t2, h⟩ := h
    refine ⟨_, (pss_cons (ps_if (PW.pt (pw_or (pt_not (pt_val (pe_call (ok_is_number T) (hr.mono (by decide)) (by rfl) T.g_is_number T.F_is_number.kp T.b_is_number .nil pass0 (pa_cons (pv 0) pa_nil)))) (pw_or1 (pt_not (pt_val (pe_call (ok_is_number T) (hr.mono (by decide)) (by rfl) T.g_is_number T.F_is_number.kp T.b_is_number .nil pass0 (pa_cons (pv 1) pa_nil))))))) (pss_one (ps_raise rfl (takes_of rfl rfl rfl rfl) (pmk_own PySem.F.excBase_ValueError T.x_NoFraction T.g_NoFraction T.k_NoFraction (raises_own T.bb_NoFraction T.t_NoFraction) rfl))) pss_nil)
      (pss_cons (ps_if (pt_cmpR op_eq (pv 1) pe_int (nomark _)) (pss_one (ps_raise rfl (takes_of rfl rfl rfl rfl) (pmk_own PySem.F.excBase_ValueError T.x_NoFraction T.g_NoFraction T.k_NoFraction (raises_own T.bb_NoFraction T.t_NoFraction) rfl))) pss_nil)
      (pss_cons (ps_set (i := 2) sc_fraction.nd rfl (Or.inl rfl) (pe_call (ok_common_divisor T) (hr.mono (by decide)) (by rfl) T.g_common_divisor T.F_common_divisor.kp T.b_common_divisor .nil pass0 (pa_cons (pe_callB call_abs (by rfl) T.m_abs (by decide +kernel) (pa_cons (pv 0) pa_nil)) (pa_cons (pe_callB call_abs (by rfl) T.m_abs (by decide +kernel) (pa_cons (pv 1) pa_nil)) pa_nil))))
      (pss_cons (ps_if (pt_cmpR op_lt (pv 1) pe_int (nomark _)) (pss_one (ps_set (i := 2) sc_fraction.nd rfl (Or.inl rfl) (pe_un un_neg (pv 2)))) pss_nil)
      (pss_one (ps_ret (pe_tup (pa_cons (pe_op op_fdivZ (pv 0) (pv 2)) (pa_cons (pe_op op_fdivZ (pv 1) (pv 2)) pa_nil))))))))), ?_⟩
    refine ⟨_, rfl, _, rfl, t1, _, rfl, ?_⟩
    rcases h with ⟨t, b, rfl, rfl, hb, sb, q⟩ | ⟨h, q⟩
    · repeat' walk_at "g"
      refine ⟨t2, ?_⟩
      repeat' walk_at "g"
      refine ifF (decide_eq_false fun z => hb (V.int.inj z)) ?_
      repeat' walk_at "g"
      refine ⟨_, _, rfl, by split <;> omega, by split <;> omega, ?_⟩
      rw [gcd_abs]
      have hq : ∀ p, H p = none → Q (.ref p) (upd H p (.tup [.int (t.fdiv (dvs t b)), .int (b.fdiv (dvs t b))])) := fun p hp => by
        rw [frac_num hb, frac_den hb]
        exact q p hp
      have hd : CDivZ t (dvs t b) := ⟨dvs_ne hb, dvs_sm hb sb⟩
      have hd2 : CDivZ b (dvs t b) := ⟨dvs_ne hb, dvs_sm hb sb⟩
      unfold dvs at hq hd hd2
      repeat' walk_at "g"
      refine ifC (fun c => ?_) (fun c => ?_)
      · have c := of_decide_eq_true c
        rw [if_pos c] at hq hd hd2
        repeat' walk_at "g"
        refine ⟨hd, ?_⟩
        repeat' walk_at "g"
        refine ⟨hd2, ?_⟩
        exact ⟨sz rfl, hq⟩
      · have c := of_decide_eq_false c
        rw [if_neg c] at hq hd hd2
        repeat' walk_at "g"
        refine ⟨hd, ?_⟩
        repeat' walk_at "g"
        refine ⟨hd2, ?_⟩
        exact ⟨sz rfl, hq⟩
    · by_cases h1 : isI v1 = true
      · refine ifF (by rw [h1]; rfl) ?_
        refine ⟨_, rfl, _, rfl, t2, _, rfl, ?_⟩
        by_cases h2 : isI v2 = true
        · refine ifF (by rw [h2]; rfl) ?_
          rcases h with h | h | rfl
          · rw [h1] at h; cases h
          · rw [h2] at h; cases h
          · repeat' walk_at "g"
            exact q
        · have h2 : isI v2 = false := by simpa using h2
          refine ifT (by rw [h2]; rfl) ?_
          exact q
      · have h1 : isI v1 = false := by simpa using h1
        refine ifT (by rw [h1]; rfl) ?_
        exact q
theorem ok_l_cell_at (T : Txt K mg) : FnOk P w K mg base CX0 1 T.a_l_cell_at T.d_l_cell_at ["_law_script", "_law_k"] (spCell K) := by
  refine T.F_l_cell_at.ok sc_l_cell_at (fun vs H Q E h => ?_) (fun cdv A outer s H vs Q E hr h => ?_)
  · obtain ⟨a, ns, k, rfl, _⟩ := h
    rfl
  · obtain ⟨a, ns, k, rfl, hS, h0, q⟩ := h
    refine ⟨_, (pss_cons (ps_if (pt_cmpR op_lt (pv 1) (pe_callB call_len_seq (by rfl) T.m_len (by decide +kernel) (pa_cons (pv 0) pa_nil)) (nomark _)) (pss_one (ps_ret (pe_ix ix_list (pv 0) (pv 1) (fun _ _ => rfl)))) pss_nil)
      (pss_one (ps_ret pe_int))), ?_⟩
    refine ⟨_, rfl, _, rfl, _, _, rfl, .inl hS, ?_⟩
    repeat' walk_at "g"
    refine ite2 (fun c => ?_) (fun c => ?_)
    · have c := of_decide_eq_true c
      refine ⟨_, rfl, _, rfl, ?_⟩
      refine ixP (fun v => ∃ i, v = .int i ∧ i ∈ ns) hS h0 c (fun v hv => ?_) (fun v ⟨i, e, m⟩ => ?_)
      · obtain ⟨i, m, e⟩ := List.mem_map.mp hv
        exact ⟨i, e.symm, m⟩
      · subst e
        exact q i (.inl m)
    · exact q 0 (.inr rfl)
theorem ok_summed (T : Txt K mg) : FnOk P w K mg base CX0 2 T.a_summed T.d_summed ["one", "top", "bottom"] spSummed := by
  refine T.F_summed.ok sc_summed (fun vs H Q E h => ?_) (fun cdv A outer s H vs Q E hr h => ?_)
  · obtain ⟨p, a, c, rfl, _⟩ := h
    rfl
  · obtain ⟨p, a, c, rfl, hp, s1, s2, s3, s4, q⟩ := h
    refine ⟨_, (pss_cons (ps_set (i := 3) sc_summed.nd rfl (Or.inl rfl) (pe_call (ok_common_divisor T) (hr.mono (by decide)) (by rfl) T.g_common_divisor T.F_common_divisor.kp T.b_common_divisor .nil pass0 (pa_cons (pe_ix ix_tup (pv 0) pe_int (fun _ _ => rfl)) (pa_cons (pv 2) pa_nil))))
      (pss_cons (ps_set (i := 4) sc_summed.nd rfl (Or.inl rfl) (pe_op op_fdivZ (pv 2) (pv 3)))
      (pss_cons (ps_set (i := 5) sc_summed.nd rfl (Or.inl rfl) (pe_op op_add (pe_op op_mulW (pe_ix ix_tup (pv 0) pe_int (fun _ _ => rfl)) (pv 4)) (pe_op op_mulW (pv 1) (pe_op op_fdivZ (pe_ix ix_tup (pv 0) pe_int (fun _ _ => rfl)) (pv 3)))))
      (pss_cons (ps_set (i := 6) sc_summed.nd rfl (Or.inl rfl) (pe_call (ok_common_divisor T) (hr.mono (by decide)) (by rfl) T.g_common_divisor T.F_common_divisor.kp T.b_common_divisor .nil pass0 (pa_cons (pe_callB call_abs (by rfl) T.m_abs (by decide +kernel) (pa_cons (pv 5) pa_nil)) (pa_cons (pv 3) pa_nil))))
      (pss_one (ps_ret (pe_tup (pa_cons (pe_op op_fdivZ (pv 5) (pv 6)) (pa_cons (pe_op op_mulW (pv 4) (pe_op op_fdivZ (pe_ix ix_tup (pv 0) pe_int (fun _ _ => rfl)) (pv 6))) pa_nil))))))))), ?_⟩
    have hf := sum_facts a c
    have d0 : 0 < a.den.gcd c.den := Nat.gcd_pos_of_pos_left _ a.den_pos
    have dz : ((a.den.gcd c.den : Nat) : Int) ≠ 0 := by omega
    have r0 : 0 < sumRest a c := Nat.gcd_pos_of_pos_right _ d0
    have rz : ((sumRest a c : Nat) : Int) ≠ 0 := by omega
    have dl := Nat.le_of_dvd a.den_pos (Nat.gcd_dvd_left a.den c.den)
    have rl : sumRest a c ≤ a.den.gcd c.den := Nat.le_of_dvd d0 (Nat.gcd_dvd_right _ _)
    have ds : Sm 1900 ((a.den.gcd c.den : Nat) : Int) := s2.le (by omega)
    have rs : Sm 1900 ((sumRest a c : Nat) : Int) := s2.le (by omega)
    repeat' walk_at "g"
    refine ⟨_, _, rfl, by omega, by omega, ?_⟩
    rw [show Int.gcd (a.den : Int) (c.den : Int) = a.den.gcd c.den from rfl]
    repeat' walk_at "g"
    rw [fdiv_nat c.den (a.den.gcd c.den)]
    have ps : Sm 1900 ((c.den / a.den.gcd c.den : Nat) : Int) := s4.div
    have qs : Sm 1900 ((a.den / a.den.gcd c.den : Nat) : Int) := s2.div
    have us : Sm 1900 ((a.den / sumRest a c : Nat) : Int) := s2.div
    repeat' walk_at "g"
    rw [fdiv_nat a.den (a.den.gcd c.den)]
    repeat' walk_at "g"
    refine ⟨_, _, rfl, by split <;> omega, by omega, ?_⟩
    rw [gcd_absN]
    rw [show (Int.natAbs (a.num * ((c.den / a.den.gcd c.den : Nat) : Int) + c.num * ((a.den / a.den.gcd c.den : Nat) : Int))).gcd (a.den.gcd c.den) = sumRest a c from rfl]
    repeat' walk_at "g"
    rw [fdiv_nat a.den (sumRest a c)]
    dsimp only
    rw [fdiv_nat c.den (a.den.gcd c.den)]
    repeat' walk_at "g"
    rw [hf.2]
    rw [show (a.num * ((c.den / a.den.gcd c.den : Nat) : Int) + c.num * ((a.den / a.den.gcd c.den : Nat) : Int)).fdiv (sumRest a c : Int) = (a + c).num from hf.1]
    exact q _ (by assumption)
theorem ok_plus (T : Txt K mg) : FnOk P w K mg base CX0 3 T.a_plus T.d_plus ["one", "other"] (spBin (· + ·)) := by
  refine T.F_plus.ok sc_plus (fun vs H Q E h => ?_) (fun cdv A outer s H vs Q E hr h => ?_)
  · obtain ⟨p, r, a, b, rfl, _⟩ := h
    rfl
  · obtain ⟨p, r, a, b, rfl, hp, hq, s1, s2, s3, s4, q⟩ := h
    refine ⟨_, (pss_one (ps_ret (pe_call (ok_summed T) (hr.mono (by decide)) (by rfl) T.g_summed T.F_summed.kp T.b_summed .nil pass0 (pa_cons (pv 0) (pa_cons (pe_ix ix_tup (pv 1) pe_int (fun _ _ => rfl)) (pa_cons (pe_ix ix_tup (pv 1) pe_int (fun _ _ => rfl)) pa_nil)))))), ?_⟩
    repeat' walk_at "g"
    exact ⟨_, _, _, rfl, hp, s1, s2, s3, s4, q⟩
theorem ok_minus (T : Txt K mg) : FnOk P w K mg base CX0 3 T.a_minus T.d_minus ["one", "other"] (spBin (· - ·)) := by
  refine T.F_minus.ok sc_minus (fun vs H Q E h => ?_) (fun cdv A outer s H vs Q E hr h => ?_)
  · obtain ⟨p, r, a, b, rfl, _⟩ := h
    rfl
  · obtain ⟨p, r, a, b, rfl, hp, hq, s1, s2, s3, s4, q⟩ := h
    refine ⟨_, (pss_one (ps_ret (pe_call (ok_summed T) (hr.mono (by decide)) (by rfl) T.g_summed T.F_summed.kp T.b_summed .nil pass0 (pa_cons (pv 0) (pa_cons (pe_un un_neg (pe_ix ix_tup (pv 1) pe_int (fun _ _ => rfl))) (pa_cons (pe_ix ix_tup (pv 1) pe_int (fun _ _ => rfl)) pa_nil)))))), ?_⟩
    repeat' walk_at "g"
    refine ⟨_, a, -b, by rw [Rat.neg_num, Rat.neg_den]; rfl, hp, s1, s2, by rw [Rat.neg_num]; exact s3.neg, by rw [Rat.neg_den]; exact s4, ?_⟩
    rw [← Rat.sub_eq_add_neg]
    exact q
theorem ok_times (T : Txt K mg) : FnOk P w K mg base CX0 2 T.a_times T.d_times ["one", "other"] (spBin (· * ·)) := by
  refine T.F_times.ok sc_times (fun vs H Q E h => ?_) (fun cdv A outer s H vs Q E hr h => ?_)
  · obtain ⟨p, r, a, b, rfl, _⟩ := h
    rfl
  · obtain ⟨p, r, a, b, rfl, hp, hq, s1, s2, s3, s4, q⟩ := h
    refine ⟨_, (pss_cons (ps_set (i := 2) sc_times.nd rfl (Or.inl rfl) (pe_call (ok_common_divisor T) (hr.mono (by decide)) (by rfl) T.g_common_divisor T.F_common_divisor.kp T.b_common_divisor .nil pass0 (pa_cons (pe_callB call_abs (by rfl) T.m_abs (by decide +kernel) (pa_cons (pe_ix ix_tup (pv 0) pe_int (fun _ _ => rfl)) pa_nil)) (pa_cons (pe_ix ix_tup (pv 1) pe_int (fun _ _ => rfl)) pa_nil))))
      (pss_cons (ps_set (i := 3) sc_times.nd rfl (Or.inl rfl) (pe_call (ok_common_divisor T) (hr.mono (by decide)) (by rfl) T.g_common_divisor T.F_common_divisor.kp T.b_common_divisor .nil pass0 (pa_cons (pe_callB call_abs (by rfl) T.m_abs (by decide +kernel) (pa_cons (pe_ix ix_tup (pv 1) pe_int (fun _ _ => rfl)) pa_nil)) (pa_cons (pe_ix ix_tup (pv 0) pe_int (fun _ _ => rfl)) pa_nil))))
      (pss_one (ps_ret (pe_tup (pa_cons (pe_op op_mulW (pe_op op_fdivZ (pe_ix ix_tup (pv 0) pe_int (fun _ _ => rfl)) (pv 2)) (pe_op op_fdivZ (pe_ix ix_tup (pv 1) pe_int (fun _ _ => rfl)) (pv 3))) (pa_cons (pe_op op_mulW (pe_op op_fdivZ (pe_ix ix_tup (pv 0) pe_int (fun _ _ => rfl)) (pv 3)) (pe_op op_fdivZ (pe_ix ix_tup (pv 1) pe_int (fun _ _ => rfl)) (pv 2))) pa_nil))))))), ?_⟩
    have l0 : 0 < a.num.natAbs.gcd b.den := Nat.gcd_pos_of_pos_right _ b.den_pos
    have r0 : 0 < b.num.natAbs.gcd a.den := Nat.gcd_pos_of_pos_right _ a.den_pos
    have lz : ((a.num.natAbs.gcd b.den : Nat) : Int) ≠ 0 := by omega
    have rz : ((b.num.natAbs.gcd a.den : Nat) : Int) ≠ 0 := by omega
    have ll := Nat.le_of_dvd b.den_pos (Nat.gcd_dvd_right a.num.natAbs b.den)
    have rl := Nat.le_of_dvd a.den_pos (Nat.gcd_dvd_right b.num.natAbs a.den)
    have ls : Sm 1900 ((a.num.natAbs.gcd b.den : Nat) : Int) := s4.le (by omega)
    have rs : Sm 1900 ((b.num.natAbs.gcd a.den : Nat) : Int) := s2.le (by omega)
    have t1 : Sm 1900 (a.num.fdiv ((a.num.natAbs.gcd b.den : Nat) : Int)) := s1.fdiv
    have t2 : Sm 1900 (b.num.fdiv ((b.num.natAbs.gcd a.den : Nat) : Int)) := s3.fdiv
    have t3 : Sm 1900 ((a.den : Int).fdiv ((b.num.natAbs.gcd a.den : Nat) : Int)) := s2.fdiv
    have t4 : Sm 1900 ((b.den : Int).fdiv ((a.num.natAbs.gcd b.den : Nat) : Int)) := s4.fdiv
    repeat' walk_at "g"
    refine ⟨_, _, rfl, by split <;> omega, by omega, ?_⟩
    rw [gcd_absN]
    repeat' walk_at "g"
    refine ⟨_, _, rfl, by split <;> omega, by omega, ?_⟩
    rw [gcd_absN]
    repeat' walk_at "g"
    dsimp only
    rw [mul_num, mul_den]
    exact q _ (by assumption)
theorem ok_less (T : Txt K mg) : FnOk P w K mg base CX0 1 T.a_less T.d_less ["one", "other"] spLess := by
  refine T.F_less.ok sc_less (fun vs H Q E h => ?_) (fun cdv A outer s H vs Q E hr h => ?_)
  · obtain ⟨p, r, a, b, rfl, _⟩ := h
    rfl
  · obtain ⟨p, r, a, b, rfl, hp, hq, s1, s2, s3, s4, q⟩ := h
    refine ⟨_, (pss_one (ps_ret (pe_cmpR op_lt (pe_op op_mulW (pe_ix ix_tup (pv 0) pe_int (fun _ _ => rfl)) (pe_ix ix_tup (pv 1) pe_int (fun _ _ => rfl))) (pe_op op_mulW (pe_ix ix_tup (pv 1) pe_int (fun _ _ => rfl)) (pe_ix ix_tup (pv 0) pe_int (fun _ _ => rfl))) (nomark _)))), ?_⟩
    repeat' walk_at "g"
    exact q
theorem ok_floor (T : Txt K mg) : FnOk P w K mg base CX0 1 T.a_floor T.d_floor ["one"] spFloor := by
  refine T.F_floor.ok sc_floor (fun vs H Q E h => ?_) (fun cdv A outer s H vs Q E hr h => ?_)
  · obtain ⟨p, a, rfl, _⟩ := h
    rfl
  · obtain ⟨p, a, rfl, hp, s1, q⟩ := h
    refine ⟨_, (pss_one (ps_ret (pe_op op_fdivZ (pe_ix ix_tup (pv 0) pe_int (fun _ _ => rfl)) (pe_ix ix_tup (pv 0) pe_int (fun _ _ => rfl))))), ?_⟩
    have dn := den_pos a
    repeat' walk_at "g"
    exact q
theorem ok_l_sum (T : Txt K mg) : FnOk P w K mg base CX0 4 T.a_l_sum T.d_l_sum ["_law_some"] (spFold K sumQ) := by
  refine T.F_l_sum.ok sc_l_sum (fun vs H Q E h => ?_) (fun cdv A outer s H vs Q E hr h => ?_)
  · obtain ⟨l, ps, f, rfl, _⟩ := h
    rfl
  · obtain ⟨l, ps, f, rfl, hl, q⟩ := h
    refine ⟨_, (pss_cons (ps_set (i := 1) sc_l_sum.nd rfl (Or.inl rfl) (pe_tup (pa_cons pe_int (pa_cons pe_int pa_nil))))
      (pss_cons (ps_for PassesOwn.never rfl (pi_list (pv 0)) (pg_name (i := 2) sc_l_sum.nd rfl (Or.inl rfl))
        (pss_one (ps_set (i := 1) sc_l_sum.nd rfl (Or.inl rfl) (pe_call (ok_plus T) (hr.mono (by decide)) (by rfl) T.g_plus T.F_plus.kp T.b_plus .nil pass0 (pa_cons (pv 1) (pa_cons (pv 2) pa_nil))))))
      (pss_one (ps_ret (pv 1))))), ?_⟩
    obtain ⟨hS, hlen, hf⟩ := hl
    repeat' walk_at "g"
    rename_i z nz
    refine ⟨⟨_, Same.seq (by walk_at "fr") hS⟩, ?_⟩
    refine forL (K := K) (a := l) (xs := ps.map V.ref) (fun _ i σ H' => Same H H' ∧ ∃ r y, σ = [some (.ref l), some (.ref r), y] ∧ H' r = some (.tup (pr (sumQ ((ps.take i).map f)))) ∧ Sz (44 * i + 1) (sumQ ((ps.take i).map f))) ?_ ?_ ?_ ?_
    · exact ⟨by walk_at "fr", _, _, rfl, upd_same, sz0⟩
    · rintro i σ H1 _ ⟨s1, _⟩
      exact s1.seq hS
    · rintro i x σ H1 hi ⟨s1, r, y, rfl, hr1, z1⟩
      rw [List.getElem?_map] at hi
      obtain ⟨p, hp, rfl⟩ := Option.map_eq_some_iff.mp hi
      obtain ⟨hpf, hz⟩ := hf p (List.mem_of_getElem? hp)
      have hi2 : i < ps.length := (List.getElem?_eq_some_iff.mp hp).1
      repeat' walk_at "g"
      refine ⟨_, _, _, _, rfl, hr1, s1 _ _ hpf, z1.1.mono (by omega), z1.2.mono (by omega), hz.1.mono (by decide), hz.2.mono (by decide), fun n nn => ?_⟩
      have e : sumQ ((ps.take (i + 1)).map f) = sumQ ((ps.take i).map f) + f p := by rw [take_snoc hp, sumQ_snoc]
      refine ⟨by walk_at "fr", n, _, rfl, ?_, ?_⟩
      · rw [upd_same, e]
      · rw [e]
        exact (z1.add hz).mono (by omega)
    · rintro σ H1 ⟨s1, r, y, rfl, hr1, z1⟩
      rw [List.length_map, List.take_length] at hr1 z1
      repeat' walk_at "g"
      exact q _ r s1 hr1 (z1.mono (by omega))
theorem ok_l_product (T : Txt K mg) : FnOk P w K mg base CX0 3 T.a_l_product T.d_l_product ["_law_some"] (spFold K prodQ) := by
  refine T.F_l_product.ok sc_l_product (fun vs H Q E h => ?_) (fun cdv A outer s H vs Q E hr h => ?_)
  · obtain ⟨l, ps, f, rfl, _⟩ := h
    rfl
  · obtain ⟨l, ps, f, rfl, hl, q⟩ := h
    refine ⟨_, (pss_cons (ps_set (i := 1) sc_l_product.nd rfl (Or.inl rfl) (pe_tup (pa_cons pe_int (pa_cons pe_int pa_nil))))
      (pss_cons (ps_for PassesOwn.never rfl (pi_list (pv 0)) (pg_name (i := 2) sc_l_product.nd rfl (Or.inl rfl))
        (pss_one (ps_set (i := 1) sc_l_product.nd rfl (Or.inl rfl) (pe_call (ok_times T) (hr.mono (by decide)) (by rfl) T.g_times T.F_times.kp T.b_times .nil pass0 (pa_cons (pv 1) (pa_cons (pv 2) pa_nil))))))
      (pss_one (ps_ret (pv 1))))), ?_⟩
    obtain ⟨hS, hlen, hf⟩ := hl
    repeat' walk_at "g"
    rename_i z nz
    refine ⟨⟨_, Same.seq (by walk_at "fr") hS⟩, ?_⟩
    refine forL (K := K) (a := l) (xs := ps.map V.ref) (fun _ i σ H' => Same H H' ∧ ∃ r y, σ = [some (.ref l), some (.ref r), y] ∧ H' r = some (.tup (pr (prodQ ((ps.take i).map f)))) ∧ Sz (44 * i + 1) (prodQ ((ps.take i).map f))) ?_ ?_ ?_ ?_
    · exact ⟨by walk_at "fr", _, _, rfl, upd_same, sz1⟩
    · rintro i σ H1 _ ⟨s1, _⟩
      exact s1.seq hS
    · rintro i x σ H1 hi ⟨s1, r, y, rfl, hr1, z1⟩
      rw [List.getElem?_map] at hi
      obtain ⟨p, hp, rfl⟩ := Option.map_eq_some_iff.mp hi
      obtain ⟨hpf, hz⟩ := hf p (List.mem_of_getElem? hp)
      have hi2 : i < ps.length := (List.getElem?_eq_some_iff.mp hp).1
      repeat' walk_at "g"
      refine ⟨_, _, _, _, rfl, hr1, s1 _ _ hpf, z1.1.mono (by omega), z1.2.mono (by omega), hz.1.mono (by decide), hz.2.mono (by decide), fun n nn => ?_⟩
      have e : prodQ ((ps.take (i + 1)).map f) = prodQ ((ps.take i).map f) * f p := by rw [take_snoc hp, prodQ_snoc]
      refine ⟨by walk_at "fr", n, _, rfl, ?_, ?_⟩
      · rw [upd_same, e]
      · rw [e]
        exact (z1.mul hz).mono (by omega)
    · rintro σ H1 ⟨s1, r, y, rfl, hr1, z1⟩
      rw [List.length_map, List.take_length] at hr1 z1
      repeat' walk_at "g"
      exact q _ r s1 hr1 (z1.mono (by omega))
theorem ok_l_lowest (T : Txt K mg) : FnOk P w K mg base CX0 1 T.a_l_lowest T.d_l_lowest ["_law_top", "_law_bottom"] spLow := by
  refine T.F_l_lowest.ok sc_l_lowest (fun vs H Q E h => ?_) (fun cdv A outer s H vs Q E hr h => ?_)
  · obtain ⟨t, b, rfl, _⟩ := h
    rfl
  · obtain ⟨t, b, rfl, b0, sb, q⟩ := h
    refine ⟨_, (pss_cons (ps_par (i := 2) (j := 3) (by rfl) sc_l_lowest.nd rfl rfl (by decide) rfl rfl (pa_cons (pe_callB call_abs (by rfl) T.m_abs (by decide +kernel) (pa_cons (pv 0) pa_nil)) (pa_cons (pv 1) pa_nil)) (by rfl))
      (pss_cons (ps_while PassesOwn.never (pt_cmpR op_gt (pv 3) pe_int (nomark _)) (pss_one (ps_par (i := 2) (j := 3) (by rfl) sc_l_lowest.nd rfl rfl (by decide) rfl rfl (pa_cons (pv 3) (pa_cons (pe_op op_mod (pv 2) (pv 3)) pa_nil)) (by rfl))))
      (pss_one (ps_ret (pe_tup (pa_cons (pe_op op_fdivZ (pv 0) (pv 2)) (pa_cons (pe_op op_fdivZ (pv 1) (pv 2)) pa_nil))))))), ?_⟩
    have hb : b ≠ 0 := by omega
    have hq : ∀ p, H p = none → Q (.ref p) (upd H p (.tup [.int (t.fdiv (dvs t b)), .int (b.fdiv (dvs t b))])) := fun p hp => by
      rw [frac_num hb, frac_den hb]
      exact q p hp
    have hd : CDivZ t (dvs t b) := ⟨dvs_ne hb, dvs_sm hb sb⟩
    have hd2 : CDivZ b (dvs t b) := ⟨dvs_ne hb, dvs_sm hb sb⟩
    have ed : dvs t b = ((Int.gcd (if t < 0 then -t else t) b : Nat) : Int) := by
      have := gcd_abs t b
      rw [if_neg (by omega : ¬ b < 0)] at this
      unfold dvs
      rw [if_neg (by omega : ¬ b < 0), this]
    rw [ed] at hq hd hd2
    repeat' walk_at "g"
    refine ⟨_, _, rfl, ?_⟩
    have a0 : 0 ≤ (if t < 0 then -t else t) := by split <;> omega
    clear ed
    generalize (if t < 0 then -t else t) = a at *
    refine while_by (fun σ H' => ∃ x y : Int, σ = [some (.int t), some (.int b), some (.int x), some (.int y)] ∧ 0 ≤ x ∧ 0 ≤ y ∧ Int.gcd x y = Int.gcd a b ∧ H' = H) (fun σ _ => match σ with | [_, _, _, some (.int y)] => y.toNat | _ => 0) ⟨a, b, rfl, a0, by omega, rfl, rfl⟩ ?_ ?_
    · rintro σ H' ⟨x, y, rfl, x0, y0, e, rfl⟩
      repeat' walk_at "g"
      refine ifC (fun c => ?_) (fun c => ?_)
      · have c := of_decide_eq_true c
        refine ⟨_, rfl, _, rfl, _, rfl, _, _, rfl, rfl, c, _, _, rfl, ⟨_, _, rfl, y0, Int.emod_nonneg _ (by omega), (gcd_turn x0 c).trans e, rfl⟩, ?_⟩
        show (x % y).toNat < y.toNat
        have := Int.emod_lt_of_pos x c
        have := Int.emod_nonneg x (show y ≠ 0 by omega)
        omega
      · have c := of_decide_eq_false c
        have y1 : y = 0 := by omega
        subst y1
        rw [← e] at hq hd hd2
        have e2 : ((Int.gcd x 0 : Nat) : Int) = x := by
          rw [Int.gcd_zero_right]
          omega
        rw [e2] at hq hd hd2
        repeat' walk_at "g"
        refine ⟨hd, ?_⟩
        repeat' walk_at "g"
        refine ⟨hd2, ?_⟩
        exact ⟨sz rfl, hq⟩
    · exact fun σ H Q Q' k ⟨v, e, i, j, e1, e2, b, eb, q⟩ => ⟨v, e, i, j, e1, e2, b, eb, k _ _ q⟩
end

def Bd (t b : Int) : Prop := -1000000 ≤ t ∧ t ≤ 1000000 ∧ 1 ≤ b ∧ b ≤ 1000000
def PR (H : Hp) (pps : List Addr) (tbs : List (Int × Int)) : Prop := Paired (fun p (tb : Int × Int) => H p = some (.tup [.int tb.1, .int tb.2]) ∧ Bd tb.1 tb.2) pps tbs
theorem PR.same {H H' : Hp} {pps : List Addr} {tbs : List (Int × Int)} (s : Same H H') (h : PR H pps tbs) : PR H' pps tbs := Paired.mono (fun _ _ k => ⟨s _ _ k.1, k.2⟩) h
theorem paired_mem {α β : Type} {F : α → β → Prop} : ∀ {xs : List α} {ys : List β} {x : α}, Paired F xs ys → x ∈ xs → ∃ y, F x y
  | _, _, _, .nil, h => by cases h
  | _, _, _, .cons f r, h => by
    rcases List.mem_cons.mp h with e | h
    · subst e; exact ⟨_, f⟩
    · exact paired_mem r h
theorem dpPairs {K : PySem.W.Frag} {H : Hp} : ∀ pps : List Addr, (∀ p ∈ pps, ∃ a b : Int, H p = some (.tup [.int a, .int b])) → ∃ ds : List PyData, DpAll K H (pps.map V.ref) ds ∧ PyData.canLayAll0 ds = true ∧ PyData.depthAll ds ≤ 1 ∧ ds.length = pps.length
  | [], _ => ⟨[], .nil, rfl, by simp [PyData.depthAll], rfl⟩
  | p :: pps, h => by
    obtain ⟨ds, h1, h2, h3, h4⟩ := dpPairs pps fun q hq => h q (List.mem_cons_of_mem _ hq)
    obtain ⟨a, b, e⟩ := h p List.mem_cons_self
    refine ⟨.tuple ([a, b].map PyData.int) :: ds, .cons (.tup (xs := [a, b].map V.int) (SqT.of e) (dpInts [a, b])) h1, ?_, ?_, by simp [h4]⟩
    · simp only [PyData.canLayAll0, PyData.canLay0, h2, layInts, Bool.and_self]
    · simp only [PyData.depthAll, PyData.depth, depInts]
      omega
theorem neNil {K : PySem.W.Frag} {H : Hp} {Q : VK} {la e : Addr} {pps : List Addr} (h1 : SqL K H la (pps.map V.ref)) (hP : ∀ p ∈ pps, ∃ a b : Int, H p = some (.tup [.int a, .int b])) (he : H e = some (.lst [])) (k : Q (.bl (!pps.isEmpty)) H) : rNeD K (.ref la) (.ref e) H Q := by
  obtain ⟨ds, d1, d2, d3, d4⟩ := dpPairs (K := K) pps hP
  refine ⟨_, _, .lst h1 d1, .lst (SqL.of he) .nil, ?_, rfl, ?_⟩
  · show (PyData.canLayAll0 ds && decide (PyData.depthAll ds + 1 ≤ 64)) = true
    rw [d2, decide_eq_true (by omega)]
    rfl
  · have e2 : PyData.eqv (.list ds) (.list []) = pps.isEmpty := by
      rw [PyData.eqv]
      cases ds with
      | nil => cases pps with
        | nil => rfl
        | cons _ _ => simp at d4
      | cons _ _ => cases pps with
        | nil => simp at d4
        | cons _ _ => rfl
    rw [e2]
    exact k
def spDrawn (K : PySem.W.Frag) : Sp := fun vs H Q _ => ∃ (p la : Addr) (xs : List V) (pps : List Addr) (tbs : List (Int × Int)), vs = [.ref p, .ref la] ∧ H p = some (.lst xs) ∧ IsSt xs ∧ H la = some (.lst (pps.map V.ref)) ∧ la ≠ p ∧ PR H pps tbs ∧ pps.length ≤ 14 ∧
  ∀ H' r t b, Frm p H H' → H' r = some (.tup [.int t, .int b]) → Bd t b → Q (.ref r) H'
def spMixed (K : PySem.W.Frag) : Sp := fun vs H Q _ => ∃ (p l : Addr) (xs : List V) (ps : List Addr) (f : Addr → Rat), vs = [.ref p, .ref l] ∧ H p = some (.lst xs) ∧ IsSt xs ∧ FL K H l ps f ∧
  ∀ (H' : Hp) (xs' : List V) (q : Addr) (ps' : List Addr), Frm p H H' → H' p = some (.lst xs') → IsSt xs' → H' q = some (.lst (ps'.map V.ref)) → ps'.Perm ps → Q (.ref q) H'
theorem erase_map {α β : Type} (f : α → β) : ∀ (l : List α) (k : Nat), (l.map f).eraseIdx k = (l.eraseIdx k).map f
  | [], _ => rfl
  | _ :: _, 0 => rfl
  | x :: l, k + 1 => congrArg (f x :: ·) (erase_map f l k)
theorem erase_perm {α : Type} : ∀ {l : List α} {k : Nat} {y : α}, l[k]? = some y → (y :: l.eraseIdx k).Perm l
  | [], k, y, h => by simp at h
  | x :: l, 0, y, h => by
    have e : x = y := Option.some.inj h
    subst e
    exact List.Perm.refl _
  | x :: l, k + 1, y, h => by
    have ih := erase_perm (l := l) (k := k) (y := y) h
    exact (List.Perm.swap x y _).trans (ih.cons x)
section
variable {P : Program} {w : World} {K : PySem.W.Frag} {mg : Str → Option Value} {base : Heap}
theorem ok_l_drawn (T : Txt K mg) : FnOk P w K mg base CX0 2 T.a_l_drawn T.d_l_drawn ["_law_state", "_law_ahead"] (spDrawn K) := by
  refine T.F_l_drawn.ok sc_l_drawn (fun vs H Q E h => ?_) (fun cdv A outer s H vs Q E hr h => ?_)
  · obtain ⟨p, la, xs, pps, tbs, rfl, _⟩ := h
    rfl
  · obtain ⟨p, la, xs, pps, tbs, rfl, hp, hx, hla, lap, hP, hlen, q⟩ := h
    refine ⟨_, (pss_cons (ps_set (i := 2) sc_l_drawn.nd rfl (Or.inl rfl) (pe_call (ok_l_digit T) (hr.mono (by decide)) (by rfl) T.g_l_digit T.F_l_digit.kp T.b_l_digit .nil pass0 (pa_cons (pv 0) (pa_cons pe_int pa_nil))))
      (pss_cons (ps_set (i := 3) sc_l_drawn.nd rfl (Or.inl rfl) (pe_op op_mul (pe_call (ok_l_digit T) (hr.mono (by decide)) (by rfl) T.g_l_digit T.F_l_digit.kp T.b_l_digit .nil pass0 (pa_cons (pv 0) (pa_cons (pe_ix ix_list (pe_lst (pa_cons pe_int (pa_cons (pe_op op_pow pe_int pe_int) pa_nil))) (pe_call (ok_l_digit T) (hr.mono (by decide)) (by rfl) T.g_l_digit T.F_l_digit.kp T.b_l_digit .nil pass0 (pa_cons (pv 0) (pa_cons pe_int pa_nil))) (fun _ _ => rfl)) pa_nil))) (pe_ix ix_list (pe_lst (pa_cons pe_int (pa_cons (pe_un un_neg pe_int) pa_nil))) (pe_call (ok_l_digit T) (hr.mono (by decide)) (by rfl) T.g_l_digit T.F_l_digit.kp T.b_l_digit .nil pass0 (pa_cons (pv 0) (pa_cons pe_int pa_nil))) (fun _ _ => rfl))))
      (pss_cons (ps_set (i := 4) sc_l_drawn.nd rfl (Or.inl rfl) (pe_op op_add pe_int (pe_call (ok_l_digit T) (hr.mono (by decide)) (by rfl) T.g_l_digit T.F_l_digit.kp T.b_l_digit .nil pass0 (pa_cons (pv 0) (pa_cons (pe_ix ix_list (pe_lst (pa_cons pe_int (pa_cons (pe_op op_pow pe_int pe_int) pa_nil))) (pe_call (ok_l_digit T) (hr.mono (by decide)) (by rfl) T.g_l_digit T.F_l_digit.kp T.b_l_digit .nil pass0 (pa_cons (pv 0) (pa_cons pe_int pa_nil))) (fun _ _ => rfl)) pa_nil)))))
      (pss_cons (ps_if (PW.pt (pw_and (pt_cmpR op_eq (pv 2) pe_int (nomark _)) (pw_and1 (pt_cmpR (op_neD hr.units) (pv 1) (pe_lst pa_nil) (nomark _))))) (pss_one (ps_ret (pe_ix ix_list (pv 1) (pe_call (ok_l_digit T) (hr.mono (by decide)) (by rfl) T.g_l_digit T.F_l_digit.kp T.b_l_digit .nil pass0 (pa_cons (pv 0) (pa_cons (pe_callB call_len_seq (by rfl) T.m_len (by decide +kernel) (pa_cons (pv 1) pa_nil)) pa_nil))) (fun _ _ => rfl)))) pss_nil)
      (pss_cons (ps_if (PW.pt (pw_and (pt_cmpR op_eq (pv 2) pe_int (nomark _)) (pw_and1 (pt_cmpR (op_neD hr.units) (pv 1) (pe_lst pa_nil) (nomark _))))) (pss_cons (ps_set (i := 5) sc_l_drawn.nd rfl (Or.inl rfl) (pe_ix ix_list (pv 1) (pe_call (ok_l_digit T) (hr.mono (by decide)) (by rfl) T.g_l_digit T.F_l_digit.kp T.b_l_digit .nil pass0 (pa_cons (pv 0) (pa_cons (pe_callB call_len_seq (by rfl) T.m_len (by decide +kernel) (pa_cons (pv 1) pa_nil)) pa_nil))) (fun _ _ => rfl)))
      (pss_one (ps_ret (pe_tup (pa_cons (pe_op op_sub pe_int (pe_ix ix_tup (pv 5) pe_int (fun _ _ => rfl))) (pa_cons (pe_ix ix_tup (pv 5) pe_int (fun _ _ => rfl)) pa_nil)))))) pss_nil)
      (pss_one (ps_ret (pe_tup (pa_cons (pe_op op_mul (pv 3) (pe_callTy call_int1 (by rfl) T.m_int (by decide +kernel) (pa_cons (pe_cmpR op_ne (pv 2) pe_int (nomark _)) pa_nil))) (pa_cons (pv 4) pa_nil)))))))))), ?_⟩
    repeat' walk_at "g"
    walk_at "dg"
    rename_i H1 way xs1 f1 h1 st1 w0 w6
    repeat' walk_at "g"
    walk_at "dg"
    rename_i l2 nl2 H2 d2 xs2 f2 h2 st2 d20 d21
    refine' ixP (fun v => ∃ i, v = .int i ∧ 0 < i ∧ i ≤ 1000000) (SqL.of ?h) d20 ?h1 ?al (fun iv hiv => ?_)
    case h => walk_at "hp"
    case h1 => exact d21
    case al =>
      intro v hv
      simp only [List.mem_cons, List.not_mem_nil, or_false] at hv
      rcases hv with rfl | rfl
      · exact ⟨_, rfl, by decide, by decide⟩
      · exact ⟨_, rfl, by decide, by decide⟩
    obtain ⟨m2, rfl, m20, m21⟩ := hiv
    walk_at "dg"
    rename_i H3 d3 xs3 f3 h3 st3 d30 d31
    repeat' walk_at "g"
    walk_at "dg"
    rename_i l4 nl4 H4 d4 xs4 f4 h4 st4 d40 d41
    refine' ixP (fun v => v = .int 1 ∨ v = .int (-1)) (SqL.of ?h) d40 ?h1 ?al (fun sv hsv => ?_)
    case h => walk_at "hp"
    case h1 => exact d41
    case al => simp
    obtain ⟨sg, rfl, hsg⟩ : ∃ sg : Int, sv = .int sg ∧ (sg = 1 ∨ sg = -1) := by
      rcases hsv with rfl | rfl
      · exact ⟨1, rfl, .inl rfl⟩
      · exact ⟨-1, rfl, .inr rfl⟩
    have ht : -1000000 ≤ d3 * sg ∧ d3 * sg ≤ 1000000 := by
      rcases hsg with rfl | rfl
      · omega
      · omega
    have hsg2 : CMul d3 sg := .inr (by rcases hsg with rfl | rfl <;> decide)
    have f04 : Frm p H H4 := by walk_at "fr"
    clear f1 f2 f3 f4
    repeat' walk_at "g"
    walk_at "dg"
    rename_i l5 nl5 H5 d5 xs5 f5 h5 st5 d50 d51
    refine' ixP (fun v => ∃ i, v = .int i ∧ 0 < i ∧ i ≤ 1000000) (SqL.of ?h) d50 ?h1 ?al (fun iv hiv => ?_)
    case h => walk_at "hp"
    case h1 => exact d51
    case al =>
      intro v hv
      simp only [List.mem_cons, List.not_mem_nil, or_false] at hv
      rcases hv with rfl | rfl
      · exact ⟨_, rfl, by decide, by decide⟩
      · exact ⟨_, rfl, by decide, by decide⟩
    obtain ⟨m5, rfl, m50, m51⟩ := hiv
    walk_at "dg"
    rename_i H6 d6 xs6 f6 h6 st6 d60 d61
    have f06 : Frm p H H6 := by walk_at "fr"
    clear f04 f5 f6
    have hla6 : H6 la = some (.lst (pps.map V.ref)) := f06 _ _ lap hla
    have hP6 : ∀ x ∈ pps, ∃ a b : Int, H6 x = some (.tup [.int a, .int b]) ∧ Bd a b ∧ x ≠ p := fun x hx2 => by
      obtain ⟨tb, e, hb⟩ := paired_mem hP hx2
      have n : x ≠ p := ne_of e hp (fun z => nomatch z)
      exact ⟨_, _, f06 _ _ n e, hb, n⟩
    repeat' walk_at "g"
    refine ifC (fun c0 => ?_) (fun c0 => ?_)
    · repeat' walk_at "g"
      refine neNil (SqL.of (by walk_at "hp")) (fun x hx2 => ?_) upd_same ?_
      · obtain ⟨a, b, e, _, _⟩ := hP6 x hx2
        exact ⟨a, b, by walk_at "hp"⟩
      repeat' walk_at "g"
      by_cases hem : pps.isEmpty = true
      · refine ifF (by rw [hem]; rfl) ?_
        repeat' walk_at "g"
        refine ifC (fun c1 => ?_) (fun c1 => ?_)
        · repeat' walk_at "g"
          refine neNil (SqL.of (by walk_at "hp")) (fun x hx2 => ?_) upd_same ?_
          · obtain ⟨a, b, e, _, _⟩ := hP6 x hx2
            exact ⟨a, b, by walk_at "hp"⟩
          repeat' walk_at "g"
          by_cases hem : pps.isEmpty = true
          · refine ifF (by rw [hem]; rfl) ?_
            repeat' walk_at "g"
            refine .inr ⟨_, rfl, ?_⟩
            refine ⟨_, _, rfl, rfl, .inr ⟨by split <;> decide, by split <;> decide⟩, ?_⟩
            repeat' walk_at "g"
            refine q _ _ _ _ (by walk_at "fr") upd_same ?_
            show Bd (d3 * sg * (if (!decide (V.int way = V.int 2)) = true then 1 else 0)) (1 + d6)
            unfold Bd
            split <;> omega
          · have hem2 : pps.isEmpty = false := by simpa using hem
            refine ifT (by rw [hem2]; rfl) ?_
            have hne : 0 < pps.length := by
              cases pps with
              | nil => cases hem2
              | cons _ _ => exact Nat.succ_pos _
            repeat' walk_at "g"
            refine ⟨_, _, _, rfl, by walk_at "hp", by assumption, by rw [List.length_map]; omega, by rw [List.length_map]; omega, fun H7 d7 xs7 f7 h7 st7 d70 d71 => ?_⟩
            have hla7 : H7 la = some (.lst (pps.map V.ref)) := by walk_at "hp"
            refine' ixP (fun v => ∃ x a b, v = .ref x ∧ H7 x = some (.tup [.int a, .int b]) ∧ Bd a b) (SqL.of hla7) d70 d71 ?al (fun iv hiv => ?_)
            case al =>
              intro v hv
              obtain ⟨x, hx2, rfl⟩ := List.mem_map.mp hv
              obtain ⟨a, b, e, hb, n⟩ := hP6 x hx2
              exact ⟨x, a, b, rfl, by walk_at "hp", hb⟩
            obtain ⟨x, a, b, rfl, e, hb⟩ := hiv
            repeat' walk_at "g"
            refine q _ _ _ _ (by walk_at "fr") upd_same ?_
            show Bd (0 - a) b
            unfold Bd at hb ⊢
            omega
        · repeat' walk_at "g"
          refine .inr ⟨_, rfl, ?_⟩
          refine ⟨_, _, rfl, rfl, .inr ⟨by split <;> decide, by split <;> decide⟩, ?_⟩
          repeat' walk_at "g"
          refine q _ _ _ _ (by walk_at "fr") upd_same ?_
          show Bd (d3 * sg * (if (!decide (V.int way = V.int 2)) = true then 1 else 0)) (1 + d6)
          unfold Bd
          split <;> omega
      · have hem2 : pps.isEmpty = false := by simpa using hem
        refine ifT (by rw [hem2]; rfl) ?_
        have hne : 0 < pps.length := by
          cases pps with
          | nil => cases hem2
          | cons _ _ => exact Nat.succ_pos _
        repeat' walk_at "g"
        refine ⟨_, _, _, rfl, by walk_at "hp", by assumption, by rw [List.length_map]; omega, by rw [List.length_map]; omega, fun H7 d7 xs7 f7 h7 st7 d70 d71 => ?_⟩
        have hla7 : H7 la = some (.lst (pps.map V.ref)) := by walk_at "hp"
        refine' ixP (fun v => ∃ x a b, v = .ref x ∧ H7 x = some (.tup [.int a, .int b]) ∧ Bd a b) (SqL.of hla7) d70 d71 ?al (fun iv hiv => ?_)
        case al =>
          intro v hv
          obtain ⟨x, hx2, rfl⟩ := List.mem_map.mp hv
          obtain ⟨a, b, e, hb, n⟩ := hP6 x hx2
          exact ⟨x, a, b, rfl, by walk_at "hp", hb⟩
        obtain ⟨x, a, b, rfl, e, hb⟩ := hiv
        exact q _ x a b (by walk_at "fr") e hb
    · repeat' walk_at "g"
      refine ifC (fun c1 => ?_) (fun c1 => ?_)
      · repeat' walk_at "g"
        refine neNil (SqL.of (by walk_at "hp")) (fun x hx2 => ?_) upd_same ?_
        · obtain ⟨a, b, e, _, _⟩ := hP6 x hx2
          exact ⟨a, b, by walk_at "hp"⟩
        repeat' walk_at "g"
        by_cases hem : pps.isEmpty = true
        · refine ifF (by rw [hem]; rfl) ?_
          repeat' walk_at "g"
          refine .inr ⟨_, rfl, ?_⟩
          refine ⟨_, _, rfl, rfl, .inr ⟨by split <;> decide, by split <;> decide⟩, ?_⟩
          repeat' walk_at "g"
          refine q _ _ _ _ (by walk_at "fr") upd_same ?_
          show Bd (d3 * sg * (if (!decide (V.int way = V.int 2)) = true then 1 else 0)) (1 + d6)
          unfold Bd
          split <;> omega
        · have hem2 : pps.isEmpty = false := by simpa using hem
          refine ifT (by rw [hem2]; rfl) ?_
          have hne : 0 < pps.length := by
            cases pps with
            | nil => cases hem2
            | cons _ _ => exact Nat.succ_pos _
          repeat' walk_at "g"
          refine ⟨_, _, _, rfl, by walk_at "hp", by assumption, by rw [List.length_map]; omega, by rw [List.length_map]; omega, fun H7 d7 xs7 f7 h7 st7 d70 d71 => ?_⟩
          have hla7 : H7 la = some (.lst (pps.map V.ref)) := by walk_at "hp"
          refine' ixP (fun v => ∃ x a b, v = .ref x ∧ H7 x = some (.tup [.int a, .int b]) ∧ Bd a b) (SqL.of hla7) d70 d71 ?al (fun iv hiv => ?_)
          case al =>
            intro v hv
            obtain ⟨x, hx2, rfl⟩ := List.mem_map.mp hv
            obtain ⟨a, b, e, hb, n⟩ := hP6 x hx2
            exact ⟨x, a, b, rfl, by walk_at "hp", hb⟩
          obtain ⟨x, a, b, rfl, e, hb⟩ := hiv
          repeat' walk_at "g"
          refine q _ _ _ _ (by walk_at "fr") upd_same ?_
          show Bd (0 - a) b
          unfold Bd at hb ⊢
          omega
      · repeat' walk_at "g"
        refine .inr ⟨_, rfl, ?_⟩
        refine ⟨_, _, rfl, rfl, .inr ⟨by split <;> decide, by split <;> decide⟩, ?_⟩
        repeat' walk_at "g"
        refine q _ _ _ _ (by walk_at "fr") upd_same ?_
        show Bd (d3 * sg * (if (!decide (V.int way = V.int 2)) = true then 1 else 0)) (1 + d6)
        unfold Bd
        split <;> omega
theorem ok_l_mixed (T : Txt K mg) : FnOk P w K mg base CX0 2 T.a_l_mixed T.d_l_mixed ["_law_state", "_law_things"] (spMixed K) := by
  refine T.F_l_mixed.ok sc_l_mixed (fun vs H Q E h => ?_) (fun cdv A outer s H vs Q E hr h => ?_)
  · obtain ⟨p, l, xs, ps, f, rfl, _⟩ := h
    rfl
  · obtain ⟨p, l, xs, ps, f, rfl, hp, hx, ⟨hS, hlen, hf⟩, q⟩ := h
    refine ⟨_, (pss_cons (ps_set (i := 2) sc_l_mixed.nd rfl (Or.inl rfl) (pe_callTy call_list_of (by rfl) T.m_list (by decide +kernel) (pa_cons (pv 1) pa_nil)))
      (pss_cons (ps_set (i := 3) sc_l_mixed.nd rfl (Or.inl rfl) (pe_lst pa_nil))
      (pss_cons (ps_while PassesOwn.never (pt_cmpR (op_neD hr.units) (pv 2) (pe_lst pa_nil) (nomark _)) (pss_one (ps_expr (pe_bm PySem.F.plainAttrs_list PySem.F.slot_list_append PySem.F.type_list_append mt_append (pv 3) (pa_cons (pe_bm PySem.F.plainAttrs_list PySem.F.slot_list_pop PySem.F.type_list_pop mt_popAt (pv 2) (pa_cons (pe_call (ok_l_digit T) (hr.mono (by decide)) (by rfl) T.g_l_digit T.F_l_digit.kp T.b_l_digit .nil pass0 (pa_cons (pv 0) (pa_cons (pe_callB call_len_seq (by rfl) T.m_len (by decide +kernel) (pa_cons (pv 2) pa_nil)) pa_nil))) pa_nil)) pa_nil)))))
      (pss_one (ps_ret (pv 3)))))), ?_⟩
    refine ⟨_, rfl, _, _, rfl, .inl hS, fun lf nlf => ?_⟩
    have lfp : lf ≠ p := new_ne nlf hp
    repeat' walk_at "g"
    rename_i fo nfo
    have nfoH : H fo = none := Same.free (by walk_at "fr") nfo
    have fop : fo ≠ p := new_ne nfoH hp
    have folf : fo ≠ lf := new_ne nfo upd_same
    have hfp : ∀ x ∈ ps, x ≠ p ∧ x ≠ lf ∧ x ≠ fo := fun x hx2 => ⟨ne_of (hf x hx2).1 hp (fun z => nomatch z), ne_of_none (hf x hx2).1 nlf, ne_of_none (hf x hx2).1 nfoH⟩
    refine while_by (fun σ H' => σ = [some (.ref p), some (.ref l), some (.ref lf), some (.ref fo)] ∧ ∃ (ls fs : List Addr) (xs' : List V), H' lf = some (.lst (ls.map V.ref)) ∧ H' fo = some (.lst (fs.map V.ref)) ∧ (fs ++ ls).Perm ps ∧ Frm p H H' ∧ H' p = some (.lst xs') ∧ IsSt xs') (fun σ H' => match H' lf with | some (.lst ys) => ys.length | _ => 0) ⟨rfl, ps, [], _, by walk_at "hp", upd_same, List.Perm.refl _, by walk_at "fr", by walk_at "hp", hx⟩ ?_ ?_
    · rintro σ H1 ⟨rfl, ls, fs, xs1, hlf, hfo, hpm, f1, h1, st1⟩
      have hpl := hpm.length_eq
      rw [List.length_append] at hpl
      have hls : ∀ x ∈ ls, x ∈ ps := fun x hx2 => hpm.mem_iff.mp (List.mem_append_right _ hx2)
      repeat' walk_at "g"
      refine neNil (SqL.of (by walk_at "hp")) (fun x hx2 => ?_) upd_same ?_
      · obtain ⟨n1, n2, n3⟩ := hfp x (hls x hx2)
        exact ⟨_, _, upd_old ‹_› (f1 _ _ n1 (hf x (hls x hx2)).1)⟩
      repeat' walk_at "g"
      refine ifC (fun c => ?_) (fun c => ?_)
      · have c : ls.isEmpty = false := by simpa using c
        have hne : 0 < ls.length := by
          cases ls with
          | nil => cases c
          | cons _ _ => exact Nat.succ_pos _
        repeat' walk_at "g"
        rename_i em nem
        refine ⟨_, _, _, rfl, by walk_at "hp", st1, by rw [List.length_map]; omega, by rw [List.length_map]; omega, fun H2 d2 xs2 f2 h2 st2 d20 d21 => ?_⟩
        rw [List.length_map] at d21
        have hlf2 : H2 lf = some (.lst (ls.map V.ref)) := by walk_at "hp"
        have hfo2 : H2 fo = some (.lst (fs.map V.ref)) := by walk_at "hp"
        have hk : d2.toNat < ls.length := by omega
        refine ⟨lf, _, _, d2.toNat, .ref ls[d2.toNat], rfl, rfl, hlf2, by omega, by omega, seqIndex_of d20 (by rw [List.length_map]; exact d21), by rw [List.getElem?_map, List.getElem?_eq_getElem hk]; rfl, ?_⟩
        refine ⟨fo, _, _, rfl, rfl, upd_oth folf hfo2, sznl (by rw [List.length_map]; omega), ⟨rfl, ls.eraseIdx d2.toNat, fs ++ [ls[d2.toNat]], xs2, ?_, ?_, ?_, ?_, ?_, st2⟩, ?_⟩
        · rw [upd_ne folf.symm, upd_same, erase_map]
        · rw [upd_same, List.map_append]; rfl
        · rw [List.append_assoc]
          exact (List.Perm.append_left fs (erase_perm (List.getElem?_eq_getElem hk))).trans hpm
        · walk_at "fr"
        · walk_at "hp"
        · show (match (upd (upd H2 lf _) fo _) lf with | some (.lst ys) => ys.length | _ => 0) < (match H1 lf with | some (.lst ys) => ys.length | _ => 0)
          rw [upd_ne folf.symm, upd_same, hlf]
          simp only [List.length_map, List.length_eraseIdx]
          split <;> omega
      · have c : ls.isEmpty = true := by simpa using c
        have e : ls = [] := by
          cases ls with
          | nil => rfl
          | cons _ _ => cases c
        subst e
        rw [List.append_nil] at hpm
        repeat' walk_at "g"
        exact q _ xs1 fo fs (by walk_at "fr") (by walk_at "hp") st1 (by walk_at "hp") hpm
    · rintro σ H Q Q' k ⟨v, e, hz, g⟩
      refine ⟨v, e, hz, fun p np => ?_⟩
      obtain ⟨d, d', h1, h2, h3, h4, b, eb, q⟩ := g p np
      exact ⟨d, d', h1, h2, h3, h4, b, eb, k _ _ q⟩
end

def prodB : List (Int × Int) → Int
  | [] => 1
  | tb :: r => tb.2 * prodB r
def prodT : List (Int × Int) → Int
  | [] => 1
  | tb :: r => tb.1 * prodT r
theorem prodB_snoc (l : List (Int × Int)) (x : Int × Int) : prodB (l ++ [x]) = prodB l * x.2 := by
  induction l with
  | nil => show x.2 * 1 = 1 * x.2; omega
  | cons y r ih => show y.2 * prodB (r ++ [x]) = y.2 * prodB r * x.2; rw [ih, Int.mul_assoc]
theorem prodT_snoc (l : List (Int × Int)) (x : Int × Int) : prodT (l ++ [x]) = prodT l * x.1 := by
  induction l with
  | nil => show x.1 * 1 = 1 * x.1; omega
  | cons y r ih => show y.1 * prodT (r ++ [x]) = y.1 * prodT r * x.1; rw [ih, Int.mul_assoc]
theorem prodB_pos : ∀ {l : List (Int × Int)}, (∀ x ∈ l, 1 ≤ x.2) → 0 < prodB l
  | [], _ => by decide
  | x :: r, h => Int.mul_pos (by have := h x List.mem_cons_self; omega) (prodB_pos fun y hy => h y (List.mem_cons_of_mem _ hy))
theorem prodB_dvd : ∀ {l : List (Int × Int)} {x : Int × Int}, x ∈ l → x.2 ∣ prodB l
  | y :: r, x, h => by
    rcases List.mem_cons.mp h with rfl | h
    · exact Int.dvd_mul_right _ _
    · exact Int.dvd_trans (prodB_dvd h) (Int.dvd_mul_left _ _)
theorem fr_of {t b B : Int} (hb : b ≠ 0) (hB : B ≠ 0) (d : b ∣ B) : Rat.divInt (t * (B / b)) B = Rat.divInt t b := by
  rw [Rat.divInt_eq_divInt_iff hB hb, Int.mul_assoc, Int.ediv_mul_cancel d]
theorem fr_add {x y B : Int} (hB : B ≠ 0) : Rat.divInt (x + y) B = Rat.divInt x B + Rat.divInt y B := by
  rw [Rat.divInt_add_divInt _ _ hB hB, Rat.divInt_eq_divInt_iff hB (mul_ne hB hB)]
  grind
theorem worth_is {B : Int} (hB : B ≠ 0) : ∀ {l : List (Int × Int)}, (∀ x ∈ l, x.2 ≠ 0 ∧ x.2 ∣ B) → Rat.divInt ((l.map fun x => x.1 * (B / x.2)).sum) B = sumQ (l.map fun x => Rat.divInt x.1 x.2)
  | [], _ => by
    show Rat.divInt 0 B = 0
    simp
  | x :: r, h => by
    obtain ⟨h1, h2⟩ := h x List.mem_cons_self
    show Rat.divInt (x.1 * (B / x.2) + (r.map fun x => x.1 * (B / x.2)).sum) B = Rat.divInt x.1 x.2 + sumQ (r.map fun x => Rat.divInt x.1 x.2)
    rw [fr_add hB, fr_of h1 hB h2, worth_is hB fun y hy => h y (List.mem_cons_of_mem _ hy)]
theorem tops_is : ∀ {l : List (Int × Int)}, (∀ x ∈ l, x.2 ≠ 0) → Rat.divInt (prodT l) (prodB l) = prodQ (l.map fun x => Rat.divInt x.1 x.2)
  | [], _ => rfl
  | x :: r, h => by
    show Rat.divInt (x.1 * prodT r) (x.2 * prodB r) = Rat.divInt x.1 x.2 * prodQ (r.map fun x => Rat.divInt x.1 x.2)
    rw [← Rat.divInt_mul_divInt, tops_is fun y hy => h y (List.mem_cons_of_mem _ hy)]
def spWorth (K : PySem.W.Frag) : Sp := fun vs H Q _ => ∃ (la : Addr) (pps : List Addr) (tbs : List (Int × Int)), vs = [.ref la] ∧ H la = some (.lst (pps.map V.ref)) ∧ PR H pps tbs ∧ pps.length ≤ 14 ∧
  ∀ (H' : Hp) (r : Addr) (S : Int), Same H H' → H' r = some (.tup [.int S, .int (prodB tbs)]) → Rat.divInt S (prodB tbs) = sumQ (tbs.map fun x => Rat.divInt x.1 x.2) → Q (.ref r) H'
theorem PR.get {H : Hp} {pps : List Addr} {tbs : List (Int × Int)} (h : PR H pps tbs) {i : Nat} {p : Addr} (hi : pps[i]? = some p) : ∃ tb, tbs[i]? = some tb ∧ H p = some (.tup [.int tb.1, .int tb.2]) ∧ Bd tb.1 tb.2 := by
  unfold PR at h
  induction h generalizing i with
  | nil => simp at hi
  | cons f _ ih =>
    cases i with
    | zero =>
      have e := Option.some.inj hi
      subst e
      exact ⟨_, rfl, f⟩
    | succ i => exact ih hi
theorem PR.all {H : Hp} {pps : List Addr} {tbs : List (Int × Int)} (h : PR H pps tbs) : ∀ x ∈ tbs, Bd x.1 x.2 := by
  unfold PR at h
  induction h with
  | nil => intro x hx; cases hx
  | cons f _ ih =>
    intro x hx
    rcases List.mem_cons.mp hx with rfl | hx
    · exact f.2
    · exact ih x hx
theorem PR.len {H : Hp} {pps : List Addr} {tbs : List (Int × Int)} (h : PR H pps tbs) : pps.length = tbs.length := by
  unfold PR at h
  induction h with
  | nil => rfl
  | cons f _ ih => simp [ih]
theorem bd_sm {t b : Int} (h : Bd t b) : Sm 21 t ∧ Sm 21 b := by
  unfold Bd at h
  exact ⟨by unfold Sm; omega, by unfold Sm; omega⟩
theorem prodB_sm : ∀ {l : List (Int × Int)}, (∀ x ∈ l, Bd x.1 x.2) → Sm (21 * l.length + 1) (prodB l)
  | [], _ => by unfold Sm; decide
  | x :: r, h => by
    have h1 := (bd_sm (h x List.mem_cons_self)).2
    have h2 := prodB_sm fun y hy => h y (List.mem_cons_of_mem _ hy)
    exact (Sm.mul h1 h2).mono (by simp only [List.length_cons]; omega)
theorem prodT_sm : ∀ {l : List (Int × Int)}, (∀ x ∈ l, Bd x.1 x.2) → Sm (21 * l.length + 1) (prodT l)
  | [], _ => by unfold Sm; decide
  | x :: r, h => by
    have h1 := (bd_sm (h x List.mem_cons_self)).1
    have h2 := prodT_sm fun y hy => h y (List.mem_cons_of_mem _ hy)
    exact (Sm.mul h1 h2).mono (by simp only [List.length_cons]; omega)
theorem take_add {α : Type} {l : List α} {i : Nat} {x : α} (h : l[i]? = some x) : l.take (i + 1) = l.take i ++ [x] := by
  rw [List.take_add_one, h]
  rfl
section
variable {P : Program} {w : World} {K : PySem.W.Frag} {mg : Str → Option Value} {base : Heap}
theorem ok_l_worth (T : Txt K mg) : FnOk P w K mg base CX0 1 T.a_l_worth T.d_l_worth ["_law_pairs"] (spWorth K) := by
  refine T.F_l_worth.ok sc_l_worth (fun vs H Q E h => ?_) (fun cdv A outer s H vs Q E hr h => ?_)
  · obtain ⟨la, pps, tbs, rfl, _⟩ := h
    rfl
  · obtain ⟨la, pps, tbs, rfl, hla, hP, hlen, q⟩ := h
    refine ⟨_, (pss_cons (ps_set (i := 1) sc_l_worth.nd rfl (Or.inr rfl) pe_int)
      (pss_cons (ps_for PassesOwn.never rfl (pi_list (pv 0)) (pg_name (i := 2) sc_l_worth.nd rfl (Or.inl rfl))
        (pss_one (ps_set (i := 1) sc_l_worth.nd rfl (Or.inr rfl) (pe_op op_mulW (pv 1) (pe_ix ix_tup (pv 2) pe_int (fun _ _ => rfl))))))
      (pss_one (ps_ret (pe_tup (pa_cons (pe_callB (cr_sum rfl) (by rfl) T.m_sum (by decide +kernel) (pa_cons (pe_lc (own := [("_law_pair", 2)]) (g := gName 2) (tt := tYes) (by rfl) sc_l_worth.nd (pi_list (pv 0)) (blkOk_by (own := [("_law_pair", 2)]) (N := N_l_worth) (sc := defScope s_l_worth) (by decide +kernel)) (fun _ _ _ _ _ => (pg_name (i := 2) sc_l_worth.nd rfl (Or.inl rfl))) (fun _ _ _ _ _ => pts_nil) (fun _ _ _ _ _ => (pe_op op_mulW (pe_ix (ix_tupK (K := K) rfl) (pv 2) pe_int (fun _ _ => rfl)) (pe_op op_fdiv (pv 1) (pe_ix (ix_tupK (K := K) rfl) (pv 2) pe_int (fun _ _ => rfl)))))) pa_nil)) (pa_cons (pv 1) pa_nil))))))), ?_⟩
    have hl := hP.len
    have hall := hP.all
    have hB0 : 0 < prodB tbs := prodB_pos fun x hx => (hall x hx).2.2.1
    have hBs := prodB_sm hall
    repeat' walk_at "g"
    refine ⟨⟨_, SqL.of hla⟩, forL (K := K) (a := la) (xs := pps.map V.ref) (fun _ i σ H' => H' = H ∧ ∃ y, σ = [some (.ref la), some (.int (prodB (tbs.take i))), y]) ⟨rfl, _, rfl⟩ (fun i σ H' _ ⟨e, _⟩ => e ▸ SqL.of hla) ?_ ?_⟩
    · rintro i x σ H' hi ⟨rfl, y, rfl⟩
      rw [List.getElem?_map] at hi
      obtain ⟨p, hp, rfl⟩ := Option.map_eq_some_iff.mp hi
      obtain ⟨tb, ht, hpt, hbd⟩ := hP.get hp
      have hi2 : i < pps.length := (List.getElem?_eq_some_iff.mp hp).1
      have s1 : Sm 400 (prodB (tbs.take i)) := (prodB_sm fun x hx => hall x (List.mem_of_mem_take hx)).mono (by rw [List.length_take]; omega)
      have s2 := (bd_sm hbd).2
      repeat' walk_at "g"
      refine ⟨some (.ref p), ?_⟩
      rw [take_add ht, prodB_snoc]
      rfl
    · rintro σ H' ⟨rfl, y, rfl⟩
      rw [List.length_map, hl, List.take_length]
      repeat' walk_at "g"
      refine ⟨⟨_, SqL.of hla⟩, fun D nD => ?_⟩
      refine lcL (K := K) (a := la) (xs := pps.map V.ref) (fun _ i H4 => Same H' H4 ∧ H4 D = some (.lst (((tbs.take i).map fun x => x.1 * (prodB tbs / x.2)).map V.int))) ?_ ?_ ?_ ?_
      · exact ⟨by walk_at "fr", upd_same⟩
      · rintro i H4 _ ⟨s4, _⟩
        exact SqL.of (s4 _ _ hla)
      · rintro i x H4 hi ⟨s4, hD⟩
        rw [List.getElem?_map] at hi
        obtain ⟨p, hp, rfl⟩ := Option.map_eq_some_iff.mp hi
        obtain ⟨tb, ht, hpt, hbd⟩ := hP.get hp
        have hi2 : i < pps.length := (List.getElem?_eq_some_iff.mp hp).1
        have hp4 := s4 _ _ hpt
        have s1 := (bd_sm hbd).1
        have s2 : Sm 400 (prodB tbs / tb.2) := Sm.le (hBs.mono (by omega)) (Int.natAbs_ediv_le_natAbs _ _)
        have c1 : 0 < tb.2 := by unfold Bd at hbd; omega
        have c2 : tb.2 < 1073741824 := by unfold Bd at hbd; omega
        refine ⟨rfl, ?_⟩
        refine ⟨_, rfl, _, _, _, _, rfl, rfl, SqT.of hp4, rfl, ?_⟩
        refine ⟨_, rfl, _, rfl, _, _, _, _, rfl, rfl, SqT.of hp4, rfl, _, _, rfl, rfl, ⟨c1, c2⟩, ?_⟩
        refine ⟨_, _, rfl, rfl, Sm.mulok s1 s2 (by decide) (by decide), ?_⟩
        refine ⟨_, hD, sznl ?_, ?_, ?_⟩
        · rw [List.length_map, List.length_map, List.length_take]; omega
        · walk_at "fr"
        · rw [upd_same, take_add ht, List.map_append, List.map_append]
          rfl
      · rintro H4 ⟨s4, hD⟩
        rw [List.length_map, hl, List.take_length] at hD
        refine ⟨_, _, rfl, SqL.of hD, ?_⟩
        repeat' walk_at "g"
        rename_i r nr
        refine q _ r _ (by walk_at "fr") upd_same (worth_is (by omega) fun x hx => ⟨?_, prodB_dvd hx⟩)
        have := hall x hx
        unfold Bd at this
        omega
def spOrder (K : PySem.W.Frag) : Sp := fun vs H Q _ => ∃ (l : Addr) (ps : List Addr) (f : Addr → Rat), vs = [.ref l] ∧ FL K H l ps f ∧ ∀ H', Same H H' → Q (.bl true) H'
theorem sub_num (a b : Rat) : decide ((a - b).num < 0) = decide (a.num * (b.den : Int) < b.num * (a.den : Int)) := by
  apply decide_eq_decide.mpr
  rw [← Rat.lt_iff]
  have h := Rat.lt_iff (a - b) 0
  have e : (0 : Rat).num * ((a - b).den : Int) = 0 := by
    show (0 : Int) * _ = 0
    omega
  have e2 : ((0 : Rat).den : Int) = 1 := rfl
  rw [e, e2, Int.mul_one] at h
  rw [← h]
  constructor
  · intro k; grind
  · intro k; grind
theorem three (a b : Rat) : (if decide (a.num * (b.den : Int) < b.num * (a.den : Int)) = true then (1 : Int) else 0) + (if decide (b.num * (a.den : Int) < a.num * (b.den : Int)) = true then (1 : Int) else 0) + b2i (decide ([a.num, (a.den : Int)] = [b.num, (b.den : Int)])) = 1 := by
  have h1 := Rat.lt_iff a b
  have h2 := Rat.lt_iff b a
  have h3 : ([a.num, (a.den : Int)] = [b.num, (b.den : Int)]) ↔ a = b := rat_inj
  rcases Int.lt_trichotomy (a.num * (b.den : Int)) (b.num * (a.den : Int)) with c | c | c
  · have n2 : ¬ b.num * (a.den : Int) < a.num * (b.den : Int) := by omega
    have n3 : ¬ a = b := fun e => by subst e; omega
    rw [decide_eq_true c, decide_eq_false n2, decide_eq_false (fun z => n3 (h3.mp z))]
    rfl
  · have n1 : ¬ a.num * (b.den : Int) < b.num * (a.den : Int) := by omega
    have n2 : ¬ b.num * (a.den : Int) < a.num * (b.den : Int) := by omega
    have e : a = b := by
      have := (Rat.divInt_eq_divInt_iff (den_ne a) (den_ne b)).mpr c
      rw [divInt_self, divInt_self] at this
      exact this
    rw [decide_eq_false n1, decide_eq_false n2, decide_eq_true (h3.mpr e)]
    rfl
  · have n1 : ¬ a.num * (b.den : Int) < b.num * (a.den : Int) := by omega
    have n3 : ¬ a = b := fun e => by subst e; omega
    rw [decide_eq_false n1, decide_eq_true c, decide_eq_false (fun z => n3 (h3.mp z))]
    rfl
theorem ok_l_order_right (T : Txt K mg) : FnOk P w K mg base CX0 4 T.a_l_order_right T.d_l_order_right ["_law_some"] (spOrder K) := by
  refine T.F_l_order_right.ok sc_l_order_right (fun vs H Q E h => ?_) (fun cdv A outer s H vs Q E hr h => ?_)
  · obtain ⟨l, ps, f, rfl, _⟩ := h
    rfl
  · obtain ⟨l, ps, f, rfl, ⟨hS, hlen, hf⟩, q⟩ := h
    refine ⟨_, (pss_cons (ps_for PassesOwn.never rfl (pi_list (pv 0)) (pg_name (i := 1) sc_l_order_right.nd rfl (Or.inl rfl))
        (pss_one (ps_for PassesOwn.never rfl (pi_list (pv 0)) (pg_name (i := 2) sc_l_order_right.nd rfl (Or.inl rfl))
        (pss_cons (ps_set (i := 3) sc_l_order_right.nd rfl (Or.inl rfl) (pe_cmpR op_lt (pe_op op_mulW (pe_ix ix_tup (pv 1) pe_int (fun _ _ => rfl)) (pe_ix ix_tup (pv 2) pe_int (fun _ _ => rfl))) (pe_op op_mulW (pe_ix ix_tup (pv 2) pe_int (fun _ _ => rfl)) (pe_ix ix_tup (pv 1) pe_int (fun _ _ => rfl))) (nomark _)))
      (pss_cons (ps_if (PW.pt (pw_or (pt_cmpR op_ne (pe_call (ok_less T) (hr.mono (by decide)) (by rfl) T.g_less T.F_less.kp T.b_less .nil pass0 (pa_cons (pv 1) (pa_cons (pv 2) pa_nil))) (pv 3) (nomark _)) (pw_or1 (pt_cmpR op_ne (pe_cmpR op_lt (pe_ix ix_tup (pe_call (ok_minus T) (hr.mono (by decide)) (by rfl) T.g_minus T.F_minus.kp T.b_minus .nil pass0 (pa_cons (pv 1) (pa_cons (pv 2) pa_nil))) pe_int (fun _ _ => rfl)) pe_int (nomark _)) (pv 3) (nomark _))))) (pss_one (ps_ret pe_bl)) pss_nil)
      (pss_one (ps_if (pt_cmpR op_ne (pe_op op_add_ib (pe_op op_add_bb (pv 3) (pe_call (ok_less T) (hr.mono (by decide)) (by rfl) T.g_less T.F_less.kp T.b_less .nil pass0 (pa_cons (pv 2) (pa_cons (pv 1) pa_nil)))) (pe_cmpR (op_eqD hr.units) (pv 1) (pv 2) (nomark _))) pe_int (nomark _)) (pss_one (ps_ret pe_bl)) pss_nil)))))))
      (pss_one (ps_ret pe_bl))), ?_⟩
    refine ⟨_, rfl, _, rfl, ⟨_, hS⟩, forL (K := K) (a := l) (xs := ps.map V.ref) (fun _ i σ H' => Same H H' ∧ ∃ y1 y2 y3, σ = [some (.ref l), y1, y2, y3]) ⟨Same.refl _, _, _, _, rfl⟩ (fun i σ H' _ ⟨s1, _⟩ => s1.seq hS) ?_ ?_⟩
    · rintro i x σ H1 hi ⟨s1, y1, y2, y3, rfl⟩
      rw [List.getElem?_map] at hi
      obtain ⟨p, hp, rfl⟩ := Option.map_eq_some_iff.mp hi
      obtain ⟨hpf, hz⟩ := hf p (List.mem_of_getElem? hp)
      refine ⟨_, rfl, _, rfl, ⟨_, s1.seq hS⟩, forL (K := K) (a := l) (xs := ps.map V.ref) (fun _ j σ H' => Same H H' ∧ ∃ y2 y3, σ = [some (.ref l), some (.ref p), y2, y3]) ⟨s1, _, _, rfl⟩ (fun i σ H' _ ⟨s2, _⟩ => s2.seq hS) ?_ ?_⟩
      · rintro j x σ H2 hj ⟨s2, y2, y3, rfl⟩
        rw [List.getElem?_map] at hj
        obtain ⟨r, hr2, rfl⟩ := Option.map_eq_some_iff.mp hj
        obtain ⟨hrf, hw⟩ := hf r (List.mem_of_getElem? hr2)
        have hp2 := s2 _ _ hpf
        have hq2 := s2 _ _ hrf
        obtain ⟨a1, a2⟩ := hz
        obtain ⟨b1, b2⟩ := hw
        repeat' walk_at "g"
        refine ⟨_, _, _, _, rfl, hp2, hq2, a1.mono (by decide), a2.mono (by decide), b1.mono (by decide), b2.mono (by decide), ?_⟩
        repeat' walk_at "g"
        refine ifF (by simp) ?_
        repeat' walk_at "g"
        refine ⟨_, _, _, _, rfl, hp2, hq2, a1.mono (by decide), a2.mono (by decide), b1.mono (by decide), b2.mono (by decide), fun n nn => ?_⟩
        repeat' walk_at "g"
        refine ifF ?_ ?_
        · show (!decide (V.bl (decide ((f p - f r).num < 0)) = V.bl (decide ((f p).num * ((f r).den : Int) < (f r).num * ((f p).den : Int))))) = false
          rw [sub_num, decide_eq_true rfl]
          rfl
        have hp3 : upd H2 n (.tup (pr (f p - f r))) p = some (.tup (pr (f p))) := upd_old nn hp2
        have hq3 : upd H2 n (.tup (pr (f p - f r))) r = some (.tup (pr (f r))) := upd_old nn hq2
        repeat' walk_at "g"
        refine ⟨_, _, _, _, rfl, hq3, hp3, b1.mono (by decide), b2.mono (by decide), a1.mono (by decide), a2.mono (by decide), ?_⟩
        repeat' walk_at "g"
        refine eqIntsT (ns := [(f p).num, ((f p).den : Int)]) (ms := [(f r).num, ((f r).den : Int)]) (SqT.of hp3) (SqT.of hq3) ?_
        repeat' walk_at "g"
        refine ifF ?_ ?_
        · show (!decide (V.int ((if decide ((f p).num * ((f r).den : Int) < (f r).num * ((f p).den : Int)) = true then (1 : Int) else 0) + (if decide ((f r).num * ((f p).den : Int) < (f p).num * ((f r).den : Int)) = true then (1 : Int) else 0) + b2i (decide ([(f p).num, ((f p).den : Int)] = [(f r).num, ((f r).den : Int)]))) = V.int 1)) = false
          rw [three, decide_eq_true rfl]
          rfl
        exact ⟨by walk_at "fr", _, _, rfl⟩
      · rintro σ H2 ⟨s2, y2, y3, rfl⟩
        exact ⟨s2, _, _, _, rfl⟩
    · rintro σ H1 ⟨s1, y1, y2, y3, rfl⟩
      exact q _ s1
end

def spLaw (K : PySem.W.Frag) : Sp := fun vs H Q _ => ∃ (a : Addr) (ns : List Int), vs = [.ref a] ∧ SqL K H a (ns.map V.int) ∧ ns.length ≤ 63 ∧ ∀ H', Q (.bl true) H'
theorem cut12 {xs : List V} : cutV xs none (some 12) = xs.take 12 := by
  unfold cutV
  rw [HT.sIx_none, show HT.sIx xs.length xs.length (some 12) = min 12 xs.length from HT.sIx_nat xs.length xs.length 12]
  show (xs.take (min 12 xs.length - 0)) = xs.take 12
  rw [Nat.sub_zero]
  by_cases h : 12 ≤ xs.length
  · rw [Nat.min_eq_left h]
  · rw [Nat.min_eq_right (by omega), List.take_length, List.take_of_length_le (by omega)]
/-- the fraction that stands at a place -/
def val (H : Hp) (p : Addr) : Rat := match H p with
  | some (.tup [.int a, .int b]) => Rat.divInt a b
  | _ => 0
theorem val_is {H : Hp} {p : Addr} {q : Rat} (h : H p = some (.tup (pr q))) : val H p = q := by
  unfold val
  rw [h]
  exact divInt_self q
theorem vals_is {H : Hp} : ∀ {as : List Addr} {tbs : List (Int × Int)}, Paired (fun a (tb : Int × Int) => H a = some (.tup (pr (Rat.divInt tb.1 tb.2))) ∧ Bd tb.1 tb.2) as tbs → as.map (val H) = tbs.map fun x => Rat.divInt x.1 x.2
  | _, _, .nil => rfl
  | _, _, .cons f r => by
    rw [List.map_cons, List.map_cons, val_is f.1, vals_is r]
theorem spread_is {H : Hp} {f : Addr → Rat} {c : Rat} {L : List Addr} : ∀ {as : List Addr} {ps : List Addr}, Paired (fun a q => H a = some (.tup (pr (c * f q))) ∧ q ∈ L) as ps → as.map (val H) = ps.map fun q => c * f q
  | _, _, .nil => rfl
  | _, _, .cons g r => by
    rw [List.map_cons, List.map_cons, val_is g.1, spread_is r]
theorem fr_sz {t b : Int} (h : Bd t b) : Sz 21 (Rat.divInt t b) := by
  have hb : b ≠ 0 := by unfold Bd at h; omega
  exact ⟨num_sm hb (bd_sm h).1, den_sm hb (bd_sm h).2⟩
def sumF (qs : List Rat) : Int := (qs.map fun q => q.floor).sum
theorem floor_lo : ∀ qs : List Rat, ((sumF qs : Int) : Rat) ≤ sumQ qs
  | [] => by
    show ((0 : Int) : Rat) ≤ 0
    exact Rat.le_refl
  | q :: qs => by
    have ih := floor_lo qs
    have h := Rat.floor_le q
    have e : ((sumF (q :: qs) : Int) : Rat) = ((q.floor : Int) : Rat) + ((sumF qs : Int) : Rat) := Rat.intCast_add _ _
    rw [e]
    show _ ≤ q + sumQ qs
    grind
theorem floor_hi : ∀ qs : List Rat, sumQ qs ≤ ((sumF qs + (qs.length : Int) : Int) : Rat)
  | [] => by
    show (0 : Rat) ≤ ((0 : Int) : Rat)
    exact Rat.le_refl
  | q :: qs => by
    have ih := floor_hi qs
    have h := Rat.lt_floor_add_one q
    have e : ((sumF (q :: qs) + ((q :: qs).length : Int) : Int) : Rat) = ((q.floor + 1 : Int) : Rat) + ((sumF qs + (qs.length : Int) : Int) : Rat) := by
      rw [← Rat.intCast_add]
      congr 1
      show q.floor + sumF qs + ((qs.length + 1 : Nat) : Int) = _
      omega
    rw [e]
    show q + sumQ qs ≤ _
    grind
theorem floor_lt {qs : List Rat} (h : 0 < qs.length) : sumQ qs < ((sumF qs + (qs.length : Int) : Int) : Rat) := by
  cases qs with
  | nil => cases h
  | cons q qs =>
    have ih := floor_hi qs
    have h := Rat.lt_floor_add_one q
    have e : ((sumF (q :: qs) + ((q :: qs).length : Int) : Int) : Rat) = ((q.floor + 1 : Int) : Rat) + ((sumF qs + (qs.length : Int) : Int) : Rat) := by
      rw [← Rat.intCast_add]
      congr 1
      show q.floor + sumF qs + ((qs.length + 1 : Nat) : Int) = _
      omega
    rw [e]
    show q + sumQ qs < _
    grind
theorem fdiv_floor (q : Rat) : q.num.fdiv (q.den : Int) = q.floor := by
  rw [Rat.floor_def, Int.fdiv_eq_ediv_of_nonneg _ (Int.le_of_lt (den_pos q))]
theorem FL.hi {K : PySem.W.Frag} {H H' : Hp} {l a : Addr} {ps : List Addr} {f : Addr → Rat} {k : Int} (h : FL K H l ps f) (s : Same H H') (ha : H' a = some (.lst (cutV (ps.map V.ref) none (some k)))) (h0 : 0 ≤ k) (h1 : k ≤ ps.length) : FL K H' a (ps.take k.toNat) f := by
  rw [cutV_hi h0 (by rw [List.length_map]; exact h1), ← List.map_take] at ha
  refine ⟨SqL.of ha, ?_, fun p hp => ?_⟩
  · have := h.2.1
    rw [List.length_take]
    omega
  · have := h.2.2 p (List.mem_of_mem_take hp)
    exact ⟨s _ _ this.1, this.2⟩
theorem FL.lo {K : PySem.W.Frag} {H H' : Hp} {l a : Addr} {ps : List Addr} {f : Addr → Rat} {k : Int} (h : FL K H l ps f) (s : Same H H') (ha : H' a = some (.lst (cutV (ps.map V.ref) (some k) none))) (h0 : 0 ≤ k) (h1 : k ≤ ps.length) : FL K H' a (ps.drop k.toNat) f := by
  rw [cutV_lo h0 (by rw [List.length_map]; exact h1), ← List.map_drop] at ha
  refine ⟨SqL.of ha, ?_, fun p hp => ?_⟩
  · have := h.2.1
    rw [List.length_drop]
    omega
  · have := h.2.2 p (List.mem_of_mem_drop hp)
    exact ⟨s _ _ this.1, this.2⟩
theorem FL.perm {K : PySem.W.Frag} {H H' : Hp} {l a : Addr} {ps ps' : List Addr} {f : Addr → Rat} (h : FL K H l ps f) (s : Same H H') (ha : H' a = some (.lst (ps'.map V.ref))) (hp : ps'.Perm ps) : FL K H' a ps' f := by
  refine ⟨SqL.of ha, ?_, fun p hm => ?_⟩
  · rw [hp.length_eq]; exact h.2.1
  · have := h.2.2 p (hp.mem_iff.mp hm)
    exact ⟨s _ _ this.1, this.2⟩
section
variable {P : Program} {w : World} {K : PySem.W.Frag} {mg : Str → Option Value} {base : Heap}
theorem ok_law (T : Txt K mg) : FnOk P w K mg base CX0 5 T.a_law T.d_law ["_law_script"] (spLaw K) := by
  refine T.F_law.ok sc_law (fun vs H Q E h => ?_) (fun cdv A outer s H vs Q E hr h => ?_)
  · obtain ⟨a, ns, rfl, _⟩ := h
    rfl
  · obtain ⟨z, ns, rfl, hS, hlen, q⟩ := h
    refine ⟨_, (pss_cons (ps_set (i := 1) sc_law.nd rfl (Or.inl rfl) (pe_lst pa_nil))
      (pss_cons (ps_for PassesOwn.never rfl (pi_list (pe_slice sl_list (pe_op op_catF (pv 0) (pe_lst (pa_cons pe_int (pa_cons pe_int pa_nil)))) po_none (po_some pe_int))) (pg_name (i := 2) sc_law.nd rfl (Or.inl rfl))
        (pss_one (ps_expr (pe_bm PySem.F.plainAttrs_list PySem.F.slot_list_append PySem.F.type_list_append mt_append (pv 1) (pa_cons (pe_call (ok_l_drawn T) (hr.mono (by decide)) (by rfl) T.g_l_drawn T.F_l_drawn.kp T.b_l_drawn .nil pass0 (pa_cons (pe_lst (pa_cons (pv 2) pa_nil)) (pa_cons (pv 1) pa_nil))) pa_nil)))))
      (pss_cons (ps_set (i := 4) sc_law.nd rfl (Or.inr rfl) (pe_lc (own := [("_law_top", 3), ("_law_bottom", 14)]) (g := gTup K 2 (gCons (gName 3) (gCons (gName 14) gNil))) (tt := tYes) (by rfl) sc_law.nd (pi_list (pv 1)) (blkOk_by (own := [("_law_top", 3), ("_law_bottom", 14)]) (N := N_law) (sc := defScope s_law) (by decide +kernel)) (fun _ _ _ _ _ => (pg_tup rfl (pgs_cons (pg_name (i := 3) sc_law.nd rfl (Or.inl rfl)) (pgs_cons (pg_name (i := 14) sc_law.nd rfl (Or.inl rfl)) pgs_nil)))) (fun _ _ _ _ _ => pts_nil) (fun _ _ _ _ _ => (pe_call (ok_fraction T) (hr.mono (by decide)) (by rfl) T.g_fraction T.F_fraction.kp T.b_fraction .nil passL (pa_cons (pv 3) (pa_cons (pv 14) pa_nil))))))
      (pss_cons (ps_asg (pe_call (ok_l_worth T) (hr.mono (by decide)) (by rfl) T.g_l_worth T.F_l_worth.kp T.b_l_worth .nil pass0 (pa_cons (pv 1) pa_nil)) (pg_tup rfl (pgs_cons (pg_name (i := 3) sc_law.nd rfl (Or.inl rfl)) (pgs_cons (pg_name (i := 5) sc_law.nd rfl (Or.inl rfl)) pgs_nil))))
      (pss_cons (ps_set (i := 6) sc_law.nd rfl (Or.inl rfl) (pe_lst (pa_cons (pe_op op_add (pe_call (ok_l_cell_at T) (hr.mono (by decide)) (by rfl) T.g_l_cell_at T.F_l_cell_at.kp T.b_l_cell_at .nil pass0 (pa_cons (pv 0) (pa_cons pe_int pa_nil))) pe_int) pa_nil)))
      (pss_cons (ps_set (i := 7) sc_law.nd rfl (Or.inl rfl) (pe_call (ok_l_digit T) (hr.mono (by decide)) (by rfl) T.g_l_digit T.F_l_digit.kp T.b_l_digit .nil pass0 (pa_cons (pv 6) (pa_cons (pe_op op_add (pe_callB call_len_seq (by rfl) T.m_len (by decide +kernel) (pa_cons (pv 4) pa_nil)) pe_int) pa_nil))))
      (pss_cons (ps_set (i := 8) sc_law.nd rfl (Or.inl rfl) (pe_call (ok_l_sum T) (hr.mono (by decide)) (by rfl) T.g_l_sum T.F_l_sum.kp T.b_l_sum .nil pass0 (pa_cons (pv 4) pa_nil)))
      (pss_cons (ps_if (PW.pt (pw_or (pt_cmpR (op_neD hr.units) (pv 8) (pe_call (ok_l_lowest T) (hr.mono (by decide)) (by rfl) T.g_l_lowest T.F_l_lowest.kp T.b_l_lowest .nil pass0 (pa_cons (pv 3) (pa_cons (pv 5) pa_nil))) (nomark _)) (pw_or1 (pt_cmpR (op_neD hr.units) (pe_call (ok_plus T) (hr.mono (by decide)) (by rfl) T.g_plus T.F_plus.kp T.b_plus .nil pass0 (pa_cons (pe_call (ok_l_sum T) (hr.mono (by decide)) (by rfl) T.g_l_sum T.F_l_sum.kp T.b_l_sum .nil pass0 (pa_cons (pe_slice sl_list (pv 4) po_none (po_some (pv 7))) pa_nil)) (pa_cons (pe_call (ok_l_sum T) (hr.mono (by decide)) (by rfl) T.g_l_sum T.F_l_sum.kp T.b_l_sum .nil pass0 (pa_cons (pe_slice sl_list (pv 4) (po_some (pv 7)) po_none) pa_nil)) pa_nil))) (pv 8) (nomark _))))) (pss_one (ps_ret pe_bl)) pss_nil)
      (pss_cons (ps_if (PW.pt (pw_or (pt_cmpR (op_neD hr.units) (pe_call (ok_l_sum T) (hr.mono (by decide)) (by rfl) T.g_l_sum T.F_l_sum.kp T.b_l_sum .nil pass0 (pa_cons (pe_call (ok_l_mixed T) (hr.mono (by decide)) (by rfl) T.g_l_mixed T.F_l_mixed.kp T.b_l_mixed .nil pass0 (pa_cons (pv 6) (pa_cons (pv 4) pa_nil))) pa_nil)) (pv 8) (nomark _)) (pw_or1 (pt_cmpR (op_neD hr.units) (pe_call (ok_l_sum T) (hr.mono (by decide)) (by rfl) T.g_l_sum T.F_l_sum.kp T.b_l_sum .nil pass0 (pa_cons (pe_revL (pv 4)) pa_nil)) (pv 8) (nomark _))))) (pss_one (ps_ret pe_bl)) pss_nil)
      (pss_cons (ps_set (i := 9) sc_law.nd rfl (Or.inl rfl) (pe_call (ok_l_product T) (hr.mono (by decide)) (by rfl) T.g_l_product T.F_l_product.kp T.b_l_product .nil pass0 (pa_cons (pv 4) pa_nil)))
      (pss_cons (ps_if (PW.pt (pw_or (pt_cmpR (op_neD hr.units) (pe_call (ok_l_product T) (hr.mono (by decide)) (by rfl) T.g_l_product T.F_l_product.kp T.b_l_product .nil pass0 (pa_cons (pe_call (ok_l_mixed T) (hr.mono (by decide)) (by rfl) T.g_l_mixed T.F_l_mixed.kp T.b_l_mixed .nil pass0 (pa_cons (pv 6) (pa_cons (pv 4) pa_nil))) pa_nil)) (pv 9) (nomark _)) (pw_or1 (pt_not (pt_val (pe_call (ok_l_order_right T) (hr.mono (by decide)) (by rfl) T.g_l_order_right T.F_l_order_right.kp T.b_l_order_right .nil pass0 (pa_cons (pv 4) pa_nil))))))) (pss_one (ps_ret pe_bl)) pss_nil)
      (pss_cons (ps_set (i := 10) sc_law.nd rfl (Or.inl rfl) pe_int)
      (pss_cons (ps_for PassesOwn.never rfl (pi_list (pv 1)) (pg_name (i := 11) sc_law.nd rfl (Or.inl rfl))
        (pss_one (ps_set (i := 10) sc_law.nd rfl (Or.inl rfl) (pe_op op_mulW (pv 10) (pe_ix ix_tup (pv 11) pe_int (fun _ _ => rfl))))))
      (pss_cons (ps_if (pt_cmpR (op_neD hr.units) (pv 9) (pe_call (ok_l_lowest T) (hr.mono (by decide)) (by rfl) T.g_l_lowest T.F_l_lowest.kp T.b_l_lowest .nil pass0 (pa_cons (pv 10) (pa_cons (pv 5) pa_nil))) (nomark _)) (pss_one (ps_ret pe_bl)) pss_nil)
      (pss_cons (ps_if (pt_cmpR (op_neD hr.units) (pe_call (ok_times T) (hr.mono (by decide)) (by rfl) T.g_times T.F_times.kp T.b_times .nil pass0 (pa_cons (pe_call (ok_l_product T) (hr.mono (by decide)) (by rfl) T.g_l_product T.F_l_product.kp T.b_l_product .nil pass0 (pa_cons (pe_slice sl_list (pv 4) po_none (po_some (pv 7))) pa_nil)) (pa_cons (pe_call (ok_l_product T) (hr.mono (by decide)) (by rfl) T.g_l_product T.F_l_product.kp T.b_l_product .nil pass0 (pa_cons (pe_slice sl_list (pv 4) (po_some (pv 7)) po_none) pa_nil)) pa_nil))) (pv 9) (nomark _)) (pss_one (ps_ret pe_bl)) pss_nil)
      (pss_cons (ps_set (i := 12) sc_law.nd rfl (Or.inl rfl) (pe_call (ok_l_sum T) (hr.mono (by decide)) (by rfl) T.g_l_sum T.F_l_sum.kp T.b_l_sum .nil pass0 (pa_cons (pe_lc (own := [("_law_one", 15)]) (g := gName 15) (tt := tYes) (by rfl) sc_law.nd (pi_list (pv 4)) (blkOk_by (own := [("_law_one", 15)]) (N := N_law) (sc := defScope s_law) (by decide +kernel)) (fun _ _ _ _ _ => (pg_name (i := 15) sc_law.nd rfl (Or.inl rfl))) (fun _ _ _ _ _ => pts_nil) (fun _ _ _ _ _ => (pe_call (ok_times T) (hr.mono (by decide)) (by rfl) T.g_times T.F_times.kp T.b_times .nil pass0 (pa_cons (pe_ix (ix_listK (K := K) rfl) (pv 4) pe_int (fun _ _ => rfl)) (pa_cons (pv 15) pa_nil))))) pa_nil)))
      (pss_cons (ps_if (pt_cmpR (op_neD hr.units) (pv 12) (pe_call (ok_times T) (hr.mono (by decide)) (by rfl) T.g_times T.F_times.kp T.b_times .nil pass0 (pa_cons (pe_ix ix_list (pv 4) pe_int (fun _ _ => rfl)) (pa_cons (pv 8) pa_nil))) (nomark _)) (pss_one (ps_ret pe_bl)) pss_nil)
      (pss_cons (ps_set (i := 13) sc_law.nd rfl (Or.inl rfl) (pe_callB (cr_sum rfl) (by rfl) T.m_sum (by decide +kernel) (pa_cons (pe_lc (own := [("_law_one", 15)]) (g := gName 15) (tt := tYes) (by rfl) sc_law.nd (pi_list (pv 4)) (blkOk_by (own := [("_law_one", 15)]) (N := N_law) (sc := defScope s_law) (by decide +kernel)) (fun _ _ _ _ _ => (pg_name (i := 15) sc_law.nd rfl (Or.inl rfl))) (fun _ _ _ _ _ => pts_nil) (fun _ _ _ _ _ => (pe_call (ok_floor T) (hr.mono (by decide)) (by rfl) T.g_floor T.F_floor.kp T.b_floor .nil pass0 (pa_cons (pv 15) pa_nil)))) pa_nil)))
      (pss_one (ps_ret (pe_chain op_le op_lt (pv 13) (pe_call (ok_floor T) (hr.mono (by decide)) (by rfl) T.g_floor T.F_floor.kp T.b_floor .nil pass0 (pa_cons (pv 8) pa_nil)) (pe_op op_add (pv 13) (pe_callB call_len_seq (by rfl) T.m_len (by decide +kernel) (pa_cons (pv 4) pa_nil)))))))))))))))))))))))), ?_⟩
    repeat' walk_at "g"
    rename_i la nla e2 ne2
    -- script + [0, 1]
    refine ⟨_, _, _, _, rfl, rfl, Same.seq (by walk_at "fr") hS, SqL.of upd_same, szn (by rw [List.length_map]; simp only [List.length]; omega), fun c1 nc1 => ?_⟩
    repeat' walk_at "g"
    rename_i c2 nc2
    rw [cut12]
    obtain ⟨cs, hcs⟩ : ∃ cs, cs = (ns.map V.int ++ [V.int 0, V.int 1]).take 12 := ⟨_, rfl⟩
    have csl : cs.length ≤ 12 ∧ 0 < cs.length := by
      rw [hcs, List.length_take, List.length_append, List.length_map]
      simp only [List.length]
      omega
    have csi : ∀ v ∈ cs, ∃ m, v = .int m := fun v hv => by
      rw [hcs] at hv
      rcases List.mem_append.mp (List.mem_of_mem_take hv) with h | h
      · obtain ⟨m, _, e⟩ := List.mem_map.mp h
        exact ⟨m, e.symm⟩
      · simp only [List.mem_cons, List.not_mem_nil, or_false] at h
        rcases h with rfl | rfl
        · exact ⟨_, rfl⟩
        · exact ⟨_, rfl⟩
    rw [← hcs]
    refine ⟨⟨_, SqL.of upd_same⟩, ?_⟩
    have c2la : la ≠ c2 := by
      have h1 : (upd (upd (upd H la (.lst [])) e2 (.lst [.int 0, .int 1])) c1 (.lst (ns.map V.int ++ [.int 0, .int 1]))) la = some (.lst []) := by walk_at "hp"
      exact fun z => new_ne nc2 h1 z.symm
    refine forL (K := K) (a := c2) (xs := cs) (fun _ i σ H' => Same H H' ∧ H' c2 = some (.lst cs) ∧ (∃ y, σ = [some (.ref z), some (.ref la), y, none, none, none, none, none, none, none, none, none, none, none, none, none]) ∧ ∃ (pps : List Addr) (tbs : List (Int × Int)), H' la = some (.lst (pps.map V.ref)) ∧ PR H' pps tbs ∧ pps.length = i) ?_ ?_ ?_ ?_
    · exact ⟨by walk_at "fr", upd_same, ⟨_, rfl⟩, [], [], by walk_at "hp", .nil, rfl⟩
    · rintro i σ H1 _ ⟨_, hc, _⟩
      exact SqL.of hc
    · rintro i x σ H1 hi ⟨s1, hc2, ⟨y, rfl⟩, pps, tbs, hla, hP, hl⟩
      obtain ⟨m, rfl⟩ := csi x (List.mem_of_getElem? hi)
      have hi2 : i < cs.length := (List.getElem?_eq_some_iff.mp hi).1
      repeat' walk_at "g"
      rename_i p np
      have pla : la ≠ p := fun z => new_ne np hla z.symm
      have pc2 : c2 ≠ p := fun z => new_ne np hc2 z.symm
      have npH : H p = none := s1.free np
      refine ⟨_, _, _, _, _, rfl, upd_same, .inl ⟨_, rfl⟩, upd_old np hla, pla, hP.same (Same.new (Same.refl _) np), by omega, fun H2 r t b f2 hr2 hbd => ?_⟩
      have sN : Same H1 H2 := Same.byFrm (Same.new (Same.refl _) np) f2 np
      have hla2 : H2 la = some (.lst (pps.map V.ref)) := sN _ _ hla
      have hc22 : H2 c2 = some (.lst cs) := sN _ _ hc2
      have s2 : Same H H2 := s1.trans sN
      have hP2 : PR H2 pps tbs := hP.same sN
      refine ⟨la, _, _, rfl, rfl, hla2, sznl (by rw [List.length_map]; omega), Same.own s2 nla, upd_oth c2la.symm hc22, ⟨_, rfl⟩, pps ++ [r], tbs ++ [(t, b)], ?_, ?_, ?_⟩
      · rw [upd_same, List.map_append]; rfl
      · exact Paired.snoc (Paired.mono (fun a tb k => ⟨upd_oth (ne_of k.1 hla2 (fun z => nomatch z)) k.1, k.2⟩) hP2) ⟨upd_oth (ne_of hr2 hla2 (fun z => nomatch z)) hr2, hbd⟩
      · rw [List.length_append, hl]; rfl
    · rintro σ H1 ⟨s1, hc2, ⟨y, rfl⟩, pps, tbs, hla, hP, hl⟩
      clear hc2 c2la nc2 nc1 ne2 hcs
      have hall := hP.all
      have hlt := hP.len
      have hl14 : pps.length ≤ 12 := by omega
      have hpos : 0 < tbs.length := by omega
      -- some
      repeat' walk_at "g"
      refine ⟨⟨_, SqL.of hla⟩, fun D nD => ?_⟩
      refine lcL (K := K) (a := la) (xs := pps.map V.ref) (fun _ i H4 => Same H1 H4 ∧ ∃ as : List Addr, H4 D = some (.lst (as.map V.ref)) ∧ as.length = i ∧ Paired (fun a (tb : Int × Int) => H4 a = some (.tup (pr (Rat.divInt tb.1 tb.2))) ∧ Bd tb.1 tb.2) as (tbs.take i)) ?_ ?_ ?_ ?_
      · exact ⟨by walk_at "fr", [], upd_same, rfl, .nil⟩
      · rintro i H4 _ ⟨s4, _⟩
        exact SqL.of (s4 _ _ hla)
      · rintro i x H4 hi ⟨s4, as, hD, hal, hA⟩
        rw [List.getElem?_map] at hi
        obtain ⟨p, hp, rfl⟩ := Option.map_eq_some_iff.mp hi
        obtain ⟨tb, ht, hpt, hbd⟩ := hP.get hp
        have hi2 : i < pps.length := (List.getElem?_eq_some_iff.mp hp).1
        have hb0 : tb.2 ≠ 0 := by unfold Bd at hbd; omega
        refine ⟨_, _, rfl, SqT.of (s4 _ _ hpt), rfl, _, _, rfl, _, _, rfl, rfl, ?_⟩
        refine ⟨rfl, ?_⟩
        refine ⟨_, rfl, _, rfl, _, _, rfl, .int _, .int _, .inl ⟨_, _, rfl, rfl, hb0, (bd_sm hbd).2.mono (by decide), fun n nn => ?_⟩⟩
        have nD' : n ≠ D := new_ne nn hD
        refine ⟨_, upd_old nn hD, sznl (by rw [List.length_map]; omega), Same.own (Same.new s4 nn) nD, as ++ [n], ?_, ?_, ?_⟩
        · rw [upd_same, List.map_append]; rfl
        · rw [List.length_append, hal]; rfl
        · rw [take_add ht]
          exact Paired.snoc (Paired.mono (fun a tb k => ⟨upd_oth (ne_of k.1 hD (fun z => nomatch z)) (upd_old nn k.1), k.2⟩) hA) ⟨upd_oth nD' upd_same, hbd⟩
      · rintro H4 ⟨s4, ps, hD, hpl, hA⟩
        rw [List.length_map, hlt, List.take_length] at hA
        rw [List.length_map] at hpl
        obtain ⟨f, hfe⟩ : ∃ f, f = val H4 := ⟨_, rfl⟩
        obtain ⟨qs, hqs⟩ : ∃ qs, qs = tbs.map fun x => Rat.divInt x.1 x.2 := ⟨_, rfl⟩
        have hmap : ps.map f = qs := by rw [hfe, hqs]; exact vals_is hA
        have hz21 : ∀ p ∈ ps, H4 p = some (.tup (pr (f p))) ∧ Sz 21 (f p) := fun p hp => by
          obtain ⟨tb, e, hb⟩ := paired_mem hA hp
          have v := val_is e
          rw [hfe, v]
          exact ⟨e, fr_sz hb⟩
        have hFL : FL K H4 D ps f := ⟨SqL.of hD, by omega, fun p hp => ⟨(hz21 p hp).1, (hz21 p hp).2.mono (by decide)⟩⟩
        have s04 : Same H H4 := s1.trans s4
        have hla4 : H4 la = some (.lst (pps.map V.ref)) := s4 _ _ hla
        have hP4 : PR H4 pps tbs := hP.same s4
        have hB0 : 0 < prodB tbs := prodB_pos fun x hx => (hall x hx).2.2.1
        have hBs : Sm 8000 (prodB tbs) := (prodB_sm hall).mono (by omega)
        clear hA hfe hla hP s1 s4 nD
        -- worth
        repeat' walk_at "g"
        refine ⟨_, _, _, rfl, hla4, hP4, by omega, fun H5 wr S s5 hw5 eS => ?_⟩
        rw [← hqs] at eS
        refine ⟨_, _, rfl, SqT.of hw5, rfl, _, _, rfl, _, _, rfl, rfl, ?_⟩
        repeat' walk_at "g"
        refine ⟨_, _, _, rfl, (s04.trans s5).seq hS, by decide, fun n0 _ => ?_⟩
        repeat' walk_at "g"
        rename_i p np
        have hplen : (ps.map V.ref).length ≤ 12 := by rw [List.length_map]; omega
        refine ⟨_, _, _, rfl, upd_same, .inl ⟨_, rfl⟩, by omega, by omega, fun H6 half xs6 f6 h6 st6 hf0 hf1 => ?_⟩
        have s46 : Same H4 H6 := Same.byFrm (Same.new s5 np) f6 (s5.free np)
        rw [List.length_map] at hf1
        have hf1' : half ≤ ps.length := by omega
        have np4 : H4 p = none := s5.free np
        clear f6 np s5 hw5
        -- found
        repeat' walk_at "g"
        refine ⟨_, ps, f, rfl, hFL.same s46, fun H7 fo s7 hfo z7 => ?_⟩
        rw [hmap] at hfo z7
        have s47 : Same H4 H7 := s46.trans s7
        have h7 : H7 p = some (.lst xs6) := s7 _ _ h6
        clear s46 s7 h6
        repeat' walk_at "g"
        refine ⟨_, _, rfl, hB0, hBs, fun n8 m8 => ?_⟩
        rw [eS]
        refine neqIntsT (ns := [(sumQ qs).num, ((sumQ qs).den : Int)]) (ms := [(sumQ qs).num, ((sumQ qs).den : Int)]) (SqT.of (upd_old m8 hfo)) (SqT.of upd_same) ?_
        rw [decide_eq_true rfl]
        have s48 : Same H4 (upd H7 n8 (.tup (pr (sumQ qs)))) := Same.new s47 m8
        have h8 : upd H7 n8 (.tup (pr (sumQ qs))) p = some (.lst xs6) := upd_old m8 h7
        have hfo8 : upd H7 n8 (.tup (pr (sumQ qs))) fo = some (.tup (pr (sumQ qs))) := upd_old m8 hfo
        generalize upd H7 n8 (.tup (pr (sumQ qs))) = H8 at s48 h8 hfo8
        clear m8 hfo h7 s47
        -- halves
        repeat' walk_at "g"
        rename_i a9 na9
        refine ⟨_, _, f, rfl, hFL.hi (Same.new s48 na9) upd_same hf0 hf1', fun H9 r9 s9 hr9 z9 => ?_⟩
        have t9 : Same H8 H9 := (Same.new (Same.refl _) na9).trans s9
        clear s9 na9
        repeat' walk_at "g"
        rename_i b9 nb9
        refine ⟨_, _, f, rfl, hFL.lo (Same.new (s48.trans t9) nb9) upd_same hf0 hf1', fun H10 r10 s10 hr10 z10 => ?_⟩
        have t10 : Same H9 H10 := (Same.new (Same.refl _) nb9).trans s10
        clear s10 nb9
        refine ⟨_, _, _, _, rfl, t10 _ _ hr9, hr10, z9.1.mono (by decide), z9.2.mono (by decide), z10.1.mono (by decide), z10.2.mono (by decide), fun n11 m11 => ?_⟩
        have e11 : sumQ ((ps.take half.toNat).map f) + sumQ ((ps.drop half.toNat).map f) = sumQ qs := by
          rw [← sumQ_app, ← List.map_append, List.take_append_drop, hmap]
        rw [show (fun x1 x2 : Rat => x1 + x2) (sumQ ((ps.take half.toNat).map f)) (sumQ ((ps.drop half.toNat).map f)) = sumQ qs from e11]
        repeat' walk_at "g"
        refine neqIntsT (ns := [(sumQ qs).num, ((sumQ qs).den : Int)]) (ms := [(sumQ qs).num, ((sumQ qs).den : Int)]) (SqT.of upd_same) (SqT.of (upd_old m11 (t10 _ _ (t9 _ _ hfo8)))) ?_
        rw [decide_eq_true rfl]
        have s411 : Same H4 (upd H10 n11 (.tup (pr (sumQ qs)))) := Same.new (s48.trans (t9.trans t10)) m11
        have h11 : upd H10 n11 (.tup (pr (sumQ qs))) p = some (.lst xs6) := upd_old m11 (t10 _ _ (t9 _ _ h8))
        have hfo11 : upd H10 n11 (.tup (pr (sumQ qs))) fo = some (.tup (pr (sumQ qs))) := upd_old m11 (t10 _ _ (t9 _ _ hfo8))
        generalize upd H10 n11 (.tup (pr (sumQ qs))) = H11 at s411 h11 hfo11 ⊢
        clear m11 t10 t9 hfo8 h8 s48 hr9 hr10 z9 z10
        have fop : fo ≠ p := ne_of hfo11 h11 (fun z => nomatch z)
        -- mixed
        repeat' walk_at "g"
        refine ⟨_, _, _, ps, f, rfl, h11, st6, hFL.same s411, fun H12 xs12 m12 ps12 f12 hp12 st12 hm12 pm12 => ?_⟩
        have s412 : Same H4 H12 := Same.byFrm s411 f12 np4
        have hfo12 : H12 fo = some (.tup (pr (sumQ qs))) := f12 _ _ fop hfo11
        clear f12 hfo11 h11 s411
        refine ⟨_, ps12, f, rfl, hFL.perm s412 hm12 pm12, fun H13 r13 s13 hr13 z13 => ?_⟩
        rw [sumQ_perm (pm12.map f), hmap] at hr13
        repeat' walk_at "g"
        refine neqIntsT (ns := [(sumQ qs).num, ((sumQ qs).den : Int)]) (ms := [(sumQ qs).num, ((sumQ qs).den : Int)]) (SqT.of hr13) (SqT.of (s13 _ _ hfo12)) ?_
        rw [decide_eq_true rfl]
        have s413 : Same H4 H13 := s412.trans s13
        have h13 : H13 p = some (.lst xs12) := s13 _ _ hp12
        have hfo13 : H13 fo = some (.tup (pr (sumQ qs))) := s13 _ _ hfo12
        clear s13 s412 hfo12 hp12 hr13 z13 hm12
        -- the other way round
        repeat' walk_at "g"
        rename_i a14 na14
        refine ⟨_, ps.reverse, f, rfl, hFL.perm (Same.new s413 na14) (by rw [upd_same, List.map_reverse]) (List.reverse_perm ps), fun H15 r15 s15 hr15 z15 => ?_⟩
        rw [sumQ_perm ((List.reverse_perm ps).map f), hmap] at hr15
        have t15 : Same H13 H15 := (Same.new (Same.refl _) na14).trans s15
        repeat' walk_at "g"
        refine neqIntsT (ns := [(sumQ qs).num, ((sumQ qs).den : Int)]) (ms := [(sumQ qs).num, ((sumQ qs).den : Int)]) (SqT.of hr15) (SqT.of (t15 _ _ hfo13)) ?_
        rw [decide_eq_true rfl]
        have s415 : Same H4 H15 := s413.trans t15
        have h15 : H15 p = some (.lst xs12) := t15 _ _ h13
        have hfo15 : H15 fo = some (.tup (pr (sumQ qs))) := t15 _ _ hfo13
        clear t15 s15 na14 s413 h13 hfo13 hr15 z15
        -- product
        repeat' walk_at "g"
        refine ⟨_, ps, f, rfl, hFL.same s415, fun H16 pd s16 hpd z16 => ?_⟩
        rw [hmap] at hpd z16
        have s416 : Same H4 H16 := s415.trans s16
        have h16 : H16 p = some (.lst xs12) := s16 _ _ h15
        have hfo16 : H16 fo = some (.tup (pr (sumQ qs))) := s16 _ _ hfo15
        clear s16 s415 h15 hfo15
        have pdp : pd ≠ p := ne_of hpd h16 (fun z => nomatch z)
        repeat' walk_at "g"
        refine ⟨_, _, _, ps, f, rfl, h16, st12, hFL.same s416, fun H17 xs17 m17 ps17 f17 hp17 st17 hm17 pm17 => ?_⟩
        have s417 : Same H4 H17 := Same.byFrm s416 f17 np4
        have hfo17 : H17 fo = some (.tup (pr (sumQ qs))) := f17 _ _ fop hfo16
        have hpd17 : H17 pd = some (.tup (pr (prodQ qs))) := f17 _ _ pdp hpd
        clear f17 hfo16 hpd h16 s416
        refine ⟨_, ps17, f, rfl, hFL.perm s417 hm17 pm17, fun H18 r18 s18 hr18 z18 => ?_⟩
        rw [prodQ_perm (pm17.map f), hmap] at hr18
        repeat' walk_at "g"
        refine neqIntsT (ns := [(prodQ qs).num, ((prodQ qs).den : Int)]) (ms := [(prodQ qs).num, ((prodQ qs).den : Int)]) (SqT.of hr18) (SqT.of (s18 _ _ hpd17)) ?_
        rw [decide_eq_true rfl]
        have s418 : Same H4 H18 := s417.trans s18
        have hfo18 : H18 fo = some (.tup (pr (sumQ qs))) := s18 _ _ hfo17
        have hpd18 : H18 pd = some (.tup (pr (prodQ qs))) := s18 _ _ hpd17
        clear s18 s417 hfo17 hpd17 hp17 hr18 z18 hm17
        -- order
        repeat' walk_at "g"
        refine ⟨_, ps, f, rfl, hFL.same s418, fun H19 s19 => ?_⟩
        have s419 : Same H4 H19 := s418.trans s19
        have hfo19 : H19 fo = some (.tup (pr (sumQ qs))) := s19 _ _ hfo18
        have hpd19 : H19 pd = some (.tup (pr (prodQ qs))) := s19 _ _ hpd18
        clear s19 s418 hfo18 hpd18
        repeat' walk_at "g"
        -- tops
        have hla19 := s419 _ _ hla4
        refine ⟨⟨_, SqL.of hla19⟩, forL (K := K) (a := la) (xs := pps.map V.ref) (fun _ i σ H' => H' = H19 ∧ ∃ y11, σ = [some (.ref z), some (.ref la), y, some (.int S), some (.ref D), some (.int (prodB tbs)), some (.ref p), some (.int half), some (.ref fo), some (.ref pd), some (.int (prodT (tbs.take i))), y11, none, none, none, none]) ⟨rfl, _, rfl⟩ (fun i σ H' _ ⟨e, _⟩ => e ▸ SqL.of hla19) ?_ ?_⟩
        · rintro i x σ H' hi ⟨rfl, y11, rfl⟩
          rw [List.getElem?_map] at hi
          obtain ⟨pq, hpq, rfl⟩ := Option.map_eq_some_iff.mp hi
          obtain ⟨tb, ht, hpt, hbd⟩ := hP4.get hpq
          have hpt19 := s419 _ _ hpt
          have sa : Sm 400 (prodT (tbs.take i)) := (prodT_sm fun x hx => hall x (List.mem_of_mem_take hx)).mono (by rw [List.length_take]; omega)
          have sb := (bd_sm hbd).1
          repeat' walk_at "g"
          refine ⟨some (.ref pq), ?_⟩
          rw [take_add ht, prodT_snoc]
          rfl
        · rintro σ H' ⟨rfl, y11, rfl⟩
          rw [List.length_map, hlt, List.take_length]
          repeat' walk_at "g"
          refine ⟨_, _, rfl, hB0, hBs, fun n20 m20 => ?_⟩
          have eT : Rat.divInt (prodT tbs) (prodB tbs) = prodQ qs := by
            rw [hqs]
            exact tops_is fun x hx => by have := hall x hx; unfold Bd at this; omega
          rw [eT]
          refine neqIntsT (ns := [(prodQ qs).num, ((prodQ qs).den : Int)]) (ms := [(prodQ qs).num, ((prodQ qs).den : Int)]) (SqT.of (upd_old m20 hpd19)) (SqT.of upd_same) ?_
          rw [decide_eq_true rfl]
          obtain ⟨H20, h20⟩ : ∃ H20, H20 = upd H' n20 (.tup (pr (prodQ qs))) := ⟨_, rfl⟩
          have s420 : Same H4 H20 := by rw [h20]; exact Same.new s419 m20
          have hfo20 : H20 fo = some (.tup (pr (sumQ qs))) := by rw [h20]; exact upd_old m20 hfo19
          have hpd20 : H20 pd = some (.tup (pr (prodQ qs))) := by rw [h20]; exact upd_old m20 hpd19
          rw [← h20]
          clear h20 m20 hfo19 hpd19 s419
          -- products of halves
          repeat' walk_at "g"
          rename_i a21 na21
          refine ⟨_, _, f, rfl, hFL.hi (Same.new s420 na21) upd_same hf0 hf1', fun H21 r21 s21 hr21 z21 => ?_⟩
          have t21 : Same H20 H21 := (Same.new (Same.refl _) na21).trans s21
          clear s21 na21
          repeat' walk_at "g"
          rename_i b21 nb21
          refine ⟨_, _, f, rfl, hFL.lo (Same.new (s420.trans t21) nb21) upd_same hf0 hf1', fun H22 r22 s22 hr22 z22 => ?_⟩
          have t22 : Same H21 H22 := (Same.new (Same.refl _) nb21).trans s22
          clear s22 nb21
          refine ⟨_, _, _, _, rfl, t22 _ _ hr21, hr22, z21.1.mono (by decide), z21.2.mono (by decide), z22.1.mono (by decide), z22.2.mono (by decide), fun n23 m23 => ?_⟩
          have e23 : prodQ ((ps.take half.toNat).map f) * prodQ ((ps.drop half.toNat).map f) = prodQ qs := by
            rw [← prodQ_app, ← List.map_append, List.take_append_drop, hmap]
          rw [show (fun x1 x2 : Rat => x1 * x2) (prodQ ((ps.take half.toNat).map f)) (prodQ ((ps.drop half.toNat).map f)) = prodQ qs from e23]
          repeat' walk_at "g"
          refine neqIntsT (ns := [(prodQ qs).num, ((prodQ qs).den : Int)]) (ms := [(prodQ qs).num, ((prodQ qs).den : Int)]) (SqT.of upd_same) (SqT.of (upd_old m23 (t22 _ _ (t21 _ _ hpd20)))) ?_
          rw [decide_eq_true rfl]
          obtain ⟨H23, h23⟩ : ∃ H23, H23 = upd H22 n23 (.tup (pr (prodQ qs))) := ⟨_, rfl⟩
          have s423 : Same H4 H23 := by rw [h23]; exact Same.new (s420.trans (t21.trans t22)) m23
          have hfo23 : H23 fo = some (.tup (pr (sumQ qs))) := by rw [h23]; exact upd_old m23 (t22 _ _ (t21 _ _ hfo20))
          rw [← h23]
          clear h23 m23 hfo20 hpd20 s420 t21 t22 hr21 hr22 z21 z22
          -- spread
          have hp0 : 0 < ps.length := by omega
          obtain ⟨p0, hp0e⟩ : ∃ p0, ps[0]? = some p0 := ⟨ps[0], List.getElem?_eq_getElem hp0⟩
          have hm0 := List.mem_of_getElem? hp0e
          have at0 : atI (ps.map V.ref) 0 = some (.ref p0) := atI_nat (j := 0) (by rw [List.getElem?_map, hp0e]; rfl)
          repeat' walk_at "g"
          refine ⟨⟨_, s423.seq (SqL.of hD)⟩, fun D2 nD2 => ?_⟩
          refine lcL (K := K) (a := D) (xs := ps.map V.ref) (fun _ i H4' => Same H23 H4' ∧ ∃ as : List Addr, H4' D2 = some (.lst (as.map V.ref)) ∧ as.length = i ∧ Paired (fun a q => H4' a = some (.tup (pr (f p0 * f q))) ∧ q ∈ ps) as (ps.take i)) ?_ ?_ ?_ ?_
          · exact ⟨by walk_at "fr", [], upd_same, rfl, .nil⟩
          · rintro i H5' _ ⟨s5', _⟩
            exact (s423.trans s5').seq (SqL.of hD)
          · rintro i x H5' hi ⟨s5', as, hD2, hal, hA2⟩
            rw [List.getElem?_map] at hi
            obtain ⟨pq, hpq, rfl⟩ := Option.map_eq_some_iff.mp hi
            have hmq := List.mem_of_getElem? hpq
            have hi2 : i < ps.length := (List.getElem?_eq_some_iff.mp hpq).1
            have hD5 : H5' D = some (.lst (ps.map V.ref)) := s5' _ _ (s423 _ _ hD)
            obtain ⟨e0, z0⟩ := hz21 p0 hm0
            obtain ⟨eq, zq⟩ := hz21 pq hmq
            refine ⟨rfl, ?_⟩
            refine ⟨_, rfl, _, _, _, _, rfl, rfl, SqL.of hD5, at0, _, rfl, ?_⟩
            refine ⟨_, _, _, _, rfl, s5' _ _ (s423 _ _ e0), s5' _ _ (s423 _ _ eq), z0.1.mono (by decide), z0.2.mono (by decide), zq.1.mono (by decide), zq.2.mono (by decide), fun n nn => ?_⟩
            have nD' : n ≠ D2 := new_ne nn hD2
            refine ⟨_, upd_old nn hD2, sznl (by rw [List.length_map]; omega), Same.own (Same.new s5' nn) nD2, as ++ [n], ?_, ?_, ?_⟩
            · rw [upd_same, List.map_append]; rfl
            · rw [List.length_append, hal]; rfl
            · rw [take_add hpq]
              exact Paired.snoc (Paired.mono (fun a tb k => ⟨upd_oth (ne_of k.1 hD2 (fun z => nomatch z)) (upd_old nn k.1), k.2⟩) hA2) ⟨upd_oth nD' upd_same, hmq⟩
          · rintro H24 ⟨s24, as, hD2, hal, hA2⟩
            rw [List.length_map, List.take_length] at hA2
            rw [List.length_map] at hal
            have s424 : Same H4 H24 := s423.trans s24
            have hfo24 : H24 fo = some (.tup (pr (sumQ qs))) := s24 _ _ hfo23
            have e24 : sumQ (as.map (val H24)) = f p0 * sumQ qs := by
              have : as.map (val H24) = ps.map (fun q => f p0 * f q) := spread_is hA2
              rw [this, ← hmap, ← sumQ_mul, List.map_map]
              rfl
            refine ⟨_, as, val H24, rfl, ⟨SqL.of hD2, by omega, fun a ha => ?_⟩, fun H25 r25 s25 hr25 z25 => ?_⟩
            · obtain ⟨q', e, hq⟩ := paired_mem hA2 ha
              rw [val_is e]
              exact ⟨e, ((hz21 p0 hm0).2.mul (hz21 q' hq).2).mono (by decide)⟩
            rw [e24] at hr25
            have s425 : Same H4 H25 := s424.trans s25
            have hfo25 : H25 fo = some (.tup (pr (sumQ qs))) := s25 _ _ hfo24
            clear s25 s424 hfo24 hA2 hD2 e24 z25
            have hD25 : H25 D = some (.lst (ps.map V.ref)) := s425 _ _ hD
            obtain ⟨e0, z0⟩ := hz21 p0 hm0
            refine ⟨_, rfl, _, rfl, _, _, _, _, rfl, rfl, SqL.of hD25, at0, _, rfl, ?_⟩
            refine ⟨_, _, _, _, rfl, s425 _ _ e0, hfo25, z0.1.mono (by decide), z0.2.mono (by decide), z7.1.mono (by decide), z7.2.mono (by decide), fun n26 m26 => ?_⟩
            refine neqIntsT (ns := [(f p0 * sumQ qs).num, ((f p0 * sumQ qs).den : Int)]) (ms := [(f p0 * sumQ qs).num, ((f p0 * sumQ qs).den : Int)]) (SqT.of (upd_old m26 hr25)) (SqT.of upd_same) ?_
            rw [decide_eq_true rfl]
            obtain ⟨H26, h26⟩ : ∃ H26, H26 = upd H25 n26 (.tup (pr (f p0 * sumQ qs))) := ⟨_, rfl⟩
            have s426 : Same H4 H26 := by rw [h26]; exact Same.new s425 m26
            have hfo26 : H26 fo = some (.tup (pr (sumQ qs))) := by rw [h26]; exact upd_old m26 hfo25
            rw [show upd H25 n26 (HO.tup (pr ((fun x1 x2 : Rat => x1 * x2) (f p0) (sumQ qs)))) = H26 from h26.symm]
            clear h26 m26 s425 hfo25 hr25 hD25
            -- low
            repeat' walk_at "g"
            refine ⟨⟨_, s426.seq (SqL.of hD)⟩, fun D3 nD3 => ?_⟩
            refine lcL (K := K) (a := D) (xs := ps.map V.ref) (fun _ i H' => Same H26 H' ∧ H' D3 = some (.lst (((ps.take i).map fun x => (f x).floor).map V.int))) ?_ ?_ ?_ ?_
            · exact ⟨by walk_at "fr", upd_same⟩
            · rintro i H5' _ ⟨s5', _⟩
              exact (s426.trans s5').seq (SqL.of hD)
            · rintro i x H5' hi ⟨s5', hD3⟩
              rw [List.getElem?_map] at hi
              obtain ⟨pq, hpq, rfl⟩ := Option.map_eq_some_iff.mp hi
              have hi2 : i < ps.length := (List.getElem?_eq_some_iff.mp hpq).1
              obtain ⟨eq, zq⟩ := hz21 pq (List.mem_of_getElem? hpq)
              refine ⟨rfl, ?_⟩
              refine ⟨_, rfl, _, _, rfl, s5' _ _ (s426 _ _ eq), zq.2.mono (by decide), ?_⟩
              refine ⟨_, hD3, sznl (by rw [List.length_map, List.length_map, List.length_take]; omega), Same.own s5' nD3, ?_⟩
              rw [upd_same, take_add hpq, List.map_append, List.map_append, fdiv_floor]
              rfl
            · rintro H27 ⟨s27, hD3⟩
              rw [List.length_map, List.take_length] at hD3
              refine ⟨_, _, rfl, SqL.of hD3, ?_⟩
              have eL : (ps.map fun x => (f x).floor).sum = sumF qs := by
                unfold sumF
                rw [← hmap, List.map_map]
                rfl
              have hlq : qs.length = ps.length := by rw [← hmap, List.length_map]
              rw [eL]
              have hfo27 : H27 fo = some (.tup (pr (sumQ qs))) := s27 _ _ hfo26
              have hD27 : H27 D = some (.lst (ps.map V.ref)) := s27 _ _ (s426 _ _ hD)
              repeat' walk_at "g"
              refine ⟨_, _, rfl, hfo27, z7.2.mono (by decide), ?_⟩
              rw [fdiv_floor]
              have c1 : sumF qs ≤ (sumQ qs).floor := Rat.le_floor_iff.mpr (floor_lo qs)
              have c2 : (sumQ qs).floor < sumF qs + (qs.length : Int) := Rat.floor_lt_iff.mpr (floor_lt (by omega))
              repeat' walk_at "g"
              refine ifT (decide_eq_true c1) ?_
              repeat' walk_at "g"
              have c3 : (sumQ qs).floor < sumF qs + ((ps.map V.ref).length : Int) := by
                rw [List.length_map, ← hlq]
                exact c2
              show Q (.bl (decide ((sumQ qs).floor < sumF qs + ((ps.map V.ref).length : Int)))) H27
              rw [decide_eq_true c3]
              exact q _
end
theorem all_mk {l : PySem.W.OpenLaw} {w : World} {K : PySem.W.Frag} {h : Heap} {mg : Str → Option Value} {fa : Addr} (X : K.In h) (G : h.Ns mainGlobals mg) (hfa : mg "law" = some (.ref fa))
    {f0 : Addr} {od0 an0 : Option Addr} {sl0 : Array (Option Value)} {oc0 kV0 dc0 pm0 cd0 ct0 : Value}
    (a0 : PySem.W.nsIn K mainGlobals "is_number" = some (some (.ref f0)))
    (l0 : K.lookup f0 = some ⟨oc0, od0, .func (PySem.W.fnOf "is_number" "is_number" (defArgs s_is_number) (defBody s_is_number) (defScope s_is_number) .none kV0 dc0 pm0 an0 cd0 ct0), sl0⟩) (c0 : PySem.W.codeIn K cd0 "is_number" = true) (k0 : PySem.W.keepIn K (.ref f0) = true)
    {f1 : Addr} {od1 an1 : Option Addr} {sl1 : Array (Option Value)} {oc1 kV1 dc1 pm1 cd1 ct1 : Value}
    (a1 : PySem.W.nsIn K mainGlobals "common_divisor" = some (some (.ref f1)))
    (l1 : K.lookup f1 = some ⟨oc1, od1, .func (PySem.W.fnOf "common_divisor" "common_divisor" (defArgs s_common_divisor) (defBody s_common_divisor) (defScope s_common_divisor) .none kV1 dc1 pm1 an1 cd1 ct1), sl1⟩) (c1 : PySem.W.codeIn K cd1 "common_divisor" = true) (k1 : PySem.W.keepIn K (.ref f1) = true)
    {f2 : Addr} {od2 an2 : Option Addr} {sl2 : Array (Option Value)} {oc2 kV2 dc2 pm2 cd2 ct2 : Value}
    {dT2 : Addr} {do2 : Obj} {dn2 : Nat}
    (a2 : PySem.W.nsIn K mainGlobals "fraction" = some (some (.ref f2)))
    {dt2_0 : Tok}
    (l2 : K.lookup f2 = some ⟨oc2, od2, .func (PySem.W.fnOf "fraction" "fraction" (defArgs s_fraction) (defBody s_fraction) (defScope s_fraction) (.ref dT2) kV2 dc2 pm2 an2 cd2 ct2), sl2⟩) (c2 : PySem.W.codeIn K cd2 "fraction" = true) (k2 : PySem.W.keepIn K (.ref f2) = true)
    (e2 : K.lookup dT2 = some do2) (q2 : do2.data = .seq #[.int 1 dt2_0] dn2)
    {f3 : Addr} {od3 an3 : Option Addr} {sl3 : Array (Option Value)} {oc3 kV3 dc3 pm3 cd3 ct3 : Value}
    (a3 : PySem.W.nsIn K mainGlobals "summed" = some (some (.ref f3)))
    (l3 : K.lookup f3 = some ⟨oc3, od3, .func (PySem.W.fnOf "summed" "summed" (defArgs s_summed) (defBody s_summed) (defScope s_summed) .none kV3 dc3 pm3 an3 cd3 ct3), sl3⟩) (c3 : PySem.W.codeIn K cd3 "summed" = true) (k3 : PySem.W.keepIn K (.ref f3) = true)
    {f4 : Addr} {od4 an4 : Option Addr} {sl4 : Array (Option Value)} {oc4 kV4 dc4 pm4 cd4 ct4 : Value}
    (a4 : PySem.W.nsIn K mainGlobals "plus" = some (some (.ref f4)))
    (l4 : K.lookup f4 = some ⟨oc4, od4, .func (PySem.W.fnOf "plus" "plus" (defArgs s_plus) (defBody s_plus) (defScope s_plus) .none kV4 dc4 pm4 an4 cd4 ct4), sl4⟩) (c4 : PySem.W.codeIn K cd4 "plus" = true) (k4 : PySem.W.keepIn K (.ref f4) = true)
    {f5 : Addr} {od5 an5 : Option Addr} {sl5 : Array (Option Value)} {oc5 kV5 dc5 pm5 cd5 ct5 : Value}
    (a5 : PySem.W.nsIn K mainGlobals "minus" = some (some (.ref f5)))
    (l5 : K.lookup f5 = some ⟨oc5, od5, .func (PySem.W.fnOf "minus" "minus" (defArgs s_minus) (defBody s_minus) (defScope s_minus) .none kV5 dc5 pm5 an5 cd5 ct5), sl5⟩) (c5 : PySem.W.codeIn K cd5 "minus" = true) (k5 : PySem.W.keepIn K (.ref f5) = true)
    {f6 : Addr} {od6 an6 : Option Addr} {sl6 : Array (Option Value)} {oc6 kV6 dc6 pm6 cd6 ct6 : Value}
    (a6 : PySem.W.nsIn K mainGlobals "times" = some (some (.ref f6)))
    (l6 : K.lookup f6 = some ⟨oc6, od6, .func (PySem.W.fnOf "times" "times" (defArgs s_times) (defBody s_times) (defScope s_times) .none kV6 dc6 pm6 an6 cd6 ct6), sl6⟩) (c6 : PySem.W.codeIn K cd6 "times" = true) (k6 : PySem.W.keepIn K (.ref f6) = true)
    {f7 : Addr} {od7 an7 : Option Addr} {sl7 : Array (Option Value)} {oc7 kV7 dc7 pm7 cd7 ct7 : Value}
    (a7 : PySem.W.nsIn K mainGlobals "less" = some (some (.ref f7)))
    (l7 : K.lookup f7 = some ⟨oc7, od7, .func (PySem.W.fnOf "less" "less" (defArgs s_less) (defBody s_less) (defScope s_less) .none kV7 dc7 pm7 an7 cd7 ct7), sl7⟩) (c7 : PySem.W.codeIn K cd7 "less" = true) (k7 : PySem.W.keepIn K (.ref f7) = true)
    {f8 : Addr} {od8 an8 : Option Addr} {sl8 : Array (Option Value)} {oc8 kV8 dc8 pm8 cd8 ct8 : Value}
    (a8 : PySem.W.nsIn K mainGlobals "floor" = some (some (.ref f8)))
    (l8 : K.lookup f8 = some ⟨oc8, od8, .func (PySem.W.fnOf "floor" "floor" (defArgs s_floor) (defBody s_floor) (defScope s_floor) .none kV8 dc8 pm8 an8 cd8 ct8), sl8⟩) (c8 : PySem.W.codeIn K cd8 "floor" = true) (k8 : PySem.W.keepIn K (.ref f8) = true)
    {f9 : Addr} {od9 an9 : Option Addr} {sl9 : Array (Option Value)} {oc9 kV9 dc9 pm9 cd9 ct9 : Value}
    (a9 : PySem.W.nsIn K mainGlobals "_law_cell_at" = some (some (.ref f9)))
    (l9 : K.lookup f9 = some ⟨oc9, od9, .func (PySem.W.fnOf "_law_cell_at" "_law_cell_at" (defArgs s_l_cell_at) (defBody s_l_cell_at) (defScope s_l_cell_at) .none kV9 dc9 pm9 an9 cd9 ct9), sl9⟩) (c9 : PySem.W.codeIn K cd9 "_law_cell_at" = true) (k9 : PySem.W.keepIn K (.ref f9) = true)
    {f10 : Addr} {od10 an10 : Option Addr} {sl10 : Array (Option Value)} {oc10 kV10 dc10 pm10 cd10 ct10 : Value}
    (a10 : PySem.W.nsIn K mainGlobals "_law_digit" = some (some (.ref f10)))
    (l10 : K.lookup f10 = some ⟨oc10, od10, .func (PySem.W.fnOf "_law_digit" "_law_digit" (defArgs s_l_digit) (defBody s_l_digit) (defScope s_l_digit) .none kV10 dc10 pm10 an10 cd10 ct10), sl10⟩) (c10 : PySem.W.codeIn K cd10 "_law_digit" = true) (k10 : PySem.W.keepIn K (.ref f10) = true)
    {f11 : Addr} {od11 an11 : Option Addr} {sl11 : Array (Option Value)} {oc11 kV11 dc11 pm11 cd11 ct11 : Value}
    (a11 : PySem.W.nsIn K mainGlobals "_law_drawn" = some (some (.ref f11)))
    (l11 : K.lookup f11 = some ⟨oc11, od11, .func (PySem.W.fnOf "_law_drawn" "_law_drawn" (defArgs s_l_drawn) (defBody s_l_drawn) (defScope s_l_drawn) .none kV11 dc11 pm11 an11 cd11 ct11), sl11⟩) (c11 : PySem.W.codeIn K cd11 "_law_drawn" = true) (k11 : PySem.W.keepIn K (.ref f11) = true)
    {f12 : Addr} {od12 an12 : Option Addr} {sl12 : Array (Option Value)} {oc12 kV12 dc12 pm12 cd12 ct12 : Value}
    (a12 : PySem.W.nsIn K mainGlobals "_law_mixed" = some (some (.ref f12)))
    (l12 : K.lookup f12 = some ⟨oc12, od12, .func (PySem.W.fnOf "_law_mixed" "_law_mixed" (defArgs s_l_mixed) (defBody s_l_mixed) (defScope s_l_mixed) .none kV12 dc12 pm12 an12 cd12 ct12), sl12⟩) (c12 : PySem.W.codeIn K cd12 "_law_mixed" = true) (k12 : PySem.W.keepIn K (.ref f12) = true)
    {f13 : Addr} {od13 an13 : Option Addr} {sl13 : Array (Option Value)} {oc13 kV13 dc13 pm13 cd13 ct13 : Value}
    (a13 : PySem.W.nsIn K mainGlobals "_law_sum" = some (some (.ref f13)))
    (l13 : K.lookup f13 = some ⟨oc13, od13, .func (PySem.W.fnOf "_law_sum" "_law_sum" (defArgs s_l_sum) (defBody s_l_sum) (defScope s_l_sum) .none kV13 dc13 pm13 an13 cd13 ct13), sl13⟩) (c13 : PySem.W.codeIn K cd13 "_law_sum" = true) (k13 : PySem.W.keepIn K (.ref f13) = true)
    {f14 : Addr} {od14 an14 : Option Addr} {sl14 : Array (Option Value)} {oc14 kV14 dc14 pm14 cd14 ct14 : Value}
    (a14 : PySem.W.nsIn K mainGlobals "_law_product" = some (some (.ref f14)))
    (l14 : K.lookup f14 = some ⟨oc14, od14, .func (PySem.W.fnOf "_law_product" "_law_product" (defArgs s_l_product) (defBody s_l_product) (defScope s_l_product) .none kV14 dc14 pm14 an14 cd14 ct14), sl14⟩) (c14 : PySem.W.codeIn K cd14 "_law_product" = true) (k14 : PySem.W.keepIn K (.ref f14) = true)
    {f15 : Addr} {od15 an15 : Option Addr} {sl15 : Array (Option Value)} {oc15 kV15 dc15 pm15 cd15 ct15 : Value}
    (a15 : PySem.W.nsIn K mainGlobals "_law_worth" = some (some (.ref f15)))
    (l15 : K.lookup f15 = some ⟨oc15, od15, .func (PySem.W.fnOf "_law_worth" "_law_worth" (defArgs s_l_worth) (defBody s_l_worth) (defScope s_l_worth) .none kV15 dc15 pm15 an15 cd15 ct15), sl15⟩) (c15 : PySem.W.codeIn K cd15 "_law_worth" = true) (k15 : PySem.W.keepIn K (.ref f15) = true)
    {f16 : Addr} {od16 an16 : Option Addr} {sl16 : Array (Option Value)} {oc16 kV16 dc16 pm16 cd16 ct16 : Value}
    (a16 : PySem.W.nsIn K mainGlobals "_law_lowest" = some (some (.ref f16)))
    (l16 : K.lookup f16 = some ⟨oc16, od16, .func (PySem.W.fnOf "_law_lowest" "_law_lowest" (defArgs s_l_lowest) (defBody s_l_lowest) (defScope s_l_lowest) .none kV16 dc16 pm16 an16 cd16 ct16), sl16⟩) (c16 : PySem.W.codeIn K cd16 "_law_lowest" = true) (k16 : PySem.W.keepIn K (.ref f16) = true)
    {f17 : Addr} {od17 an17 : Option Addr} {sl17 : Array (Option Value)} {oc17 kV17 dc17 pm17 cd17 ct17 : Value}
    (a17 : PySem.W.nsIn K mainGlobals "_law_order_right" = some (some (.ref f17)))
    (l17 : K.lookup f17 = some ⟨oc17, od17, .func (PySem.W.fnOf "_law_order_right" "_law_order_right" (defArgs s_l_order_right) (defBody s_l_order_right) (defScope s_l_order_right) .none kV17 dc17 pm17 an17 cd17 ct17), sl17⟩) (c17 : PySem.W.codeIn K cd17 "_law_order_right" = true) (k17 : PySem.W.keepIn K (.ref f17) = true)
    {f18 : Addr} {od18 an18 : Option Addr} {sl18 : Array (Option Value)} {oc18 kV18 dc18 pm18 cd18 ct18 : Value}
    (a18 : PySem.W.nsIn K mainGlobals "law" = some (some (.ref f18)))
    (l18 : K.lookup f18 = some ⟨oc18, od18, .func (PySem.W.fnOf "law" "law" (defArgs s_law) (defBody s_law) (defScope s_law) .none kV18 dc18 pm18 an18 cd18 ct18), sl18⟩) (c18 : PySem.W.codeIn K cd18 "law" = true) (k18 : PySem.W.keepIn K (.ref f18) = true)
    (z_abs : PySem.W.nsIn K mainGlobals "abs" = some none)
    (z_bool : PySem.W.nsIn K mainGlobals "bool" = some none)
    (z_int : PySem.W.nsIn K mainGlobals "int" = some none)
    (z_isinstance : PySem.W.nsIn K mainGlobals "isinstance" = some none)
    (z_len : PySem.W.nsIn K mainGlobals "len" = some none)
    (z_list : PySem.W.nsIn K mainGlobals "list" = some none)
    (z_sum : PySem.W.nsIn K mainGlobals "sum" = some none)
    {C_ScrollError : Addr} (g_ScrollError : PySem.W.nsIn K mainGlobals "ScrollError" = some (some (.ref C_ScrollError)))
    {C_NoFraction : Addr} (g_NoFraction : PySem.W.nsIn K mainGlobals "NoFraction" = some (some (.ref C_NoFraction)))
    (x_NoFraction : PySem.W.excIn K C_NoFraction [.type "ValueError", .type "Exception", .type "BaseException", .type "object"] "ValueError.__new__" = true) (kc_NoFraction : PySem.W.keepIn K (.ref C_NoFraction) = true) (bb_NoFraction : PySem.W.subIn K (.ref C_NoFraction) (.type "BaseException") = some true) (t_NoFraction : PySem.W.typeIn K (.ref C_NoFraction) = some (.type "type"))
    (xa_NoFraction : PySem.W.findIn K (.ref C_NoFraction) "__getattribute__" = some (some (.builtin "BaseException.__getattribute__"))) (xb_NoFraction : PySem.W.findIn K (.ref C_NoFraction) "__getattr__" = some none) (xc_NoFraction : PySem.W.hasDictIn K C_NoFraction = true) (xd_NoFraction : PySem.W.findIn K (.ref C_NoFraction) "__class__" = some (some (.builtin "object.__class__")))
    (xe_NoFraction : PySem.W.specialIn K (.builtin "object.__class__") "__get__" = some (some (.builtin "getset_descriptor.__get__"))) (xf_NoFraction : PySem.W.takesIn K (.builtin "object.__class__") = some true) (xg_NoFraction : PySem.W.mroIn K C_NoFraction (.type "object") = some true)
    : ∃ fd : FuncData, (∀ (s : Shared) (v : Value), BindsTo s fd ⟨[v], []⟩ [("_law_script", v)]) ∧ ∀ base : Heap, K.In base → base.Ns mainGlobals mg → FnOk l.prog w K mg base CX0 5 fa fd ["_law_script"] (spLaw K) := by
  have e := hfa.symm.trans (PySem.W.mg_of X G a18)
  cases e
  have F0 := fun_mk (st := s_is_number) l0 c0 k0
  have F1 := fun_mk (st := s_common_divisor) l1 c1 k1
  have F2 : FunD K "fraction" "fraction" (defArgs s_fraction) (defBody s_fraction) (defScope s_fraction) [V.int 1] [] f2 _ := ⟨⟨_, _, _, _, _, _, _, _, _, _, rfl, l2, c2, .inr ⟨(fun z => nomatch z), _, _, [.int 1 dt2_0], _, rfl, e2, q2, .cons ⟨_, rfl⟩ (.nil)⟩, .inl rfl⟩, k2⟩
  have F3 := fun_mk (st := s_summed) l3 c3 k3
  have F4 := fun_mk (st := s_plus) l4 c4 k4
  have F5 := fun_mk (st := s_minus) l5 c5 k5
  have F6 := fun_mk (st := s_times) l6 c6 k6
  have F7 := fun_mk (st := s_less) l7 c7 k7
  have F8 := fun_mk (st := s_floor) l8 c8 k8
  have F9 := fun_mk (st := s_l_cell_at) l9 c9 k9
  have F10 := fun_mk (st := s_l_digit) l10 c10 k10
  have F11 := fun_mk (st := s_l_drawn) l11 c11 k11
  have F12 := fun_mk (st := s_l_mixed) l12 c12 k12
  have F13 := fun_mk (st := s_l_sum) l13 c13 k13
  have F14 := fun_mk (st := s_l_product) l14 c14 k14
  have F15 := fun_mk (st := s_l_worth) l15 c15 k15
  have F16 := fun_mk (st := s_l_lowest) l16 c16 k16
  have F17 := fun_mk (st := s_l_order_right) l17 c17 k17
  have F18 := fun_mk (st := s_law) l18 c18 k18
  have b0 := F0.binds (ps := ["thing"]) fun _ _ _ _ _ _ us hl => match us, hl with | [_], _ => rfl
  have b1 := F1.binds (ps := ["one", "other"]) fun _ _ _ _ _ _ us hl => match us, hl with | [_, _], _ => rfl
  have b2 : Binds K _ ["top", "bottom"] [] := bindsAll (F := F2) (ps := ["top", "bottom"]) (fun T kV doc pm an cdv ct us its h1 h2 => match us, its, h1, h2 with | [_, _], [_], _, _ => ⟨_, rfl, rfl⟩) (fun z => nomatch z)
  have b3 := F3.binds (ps := ["one", "top", "bottom"]) fun _ _ _ _ _ _ us hl => match us, hl with | [_, _, _], _ => rfl
  have b4 := F4.binds (ps := ["one", "other"]) fun _ _ _ _ _ _ us hl => match us, hl with | [_, _], _ => rfl
  have b5 := F5.binds (ps := ["one", "other"]) fun _ _ _ _ _ _ us hl => match us, hl with | [_, _], _ => rfl
  have b6 := F6.binds (ps := ["one", "other"]) fun _ _ _ _ _ _ us hl => match us, hl with | [_, _], _ => rfl
  have b7 := F7.binds (ps := ["one", "other"]) fun _ _ _ _ _ _ us hl => match us, hl with | [_, _], _ => rfl
  have b8 := F8.binds (ps := ["one"]) fun _ _ _ _ _ _ us hl => match us, hl with | [_], _ => rfl
  have b9 := F9.binds (ps := ["_law_script", "_law_k"]) fun _ _ _ _ _ _ us hl => match us, hl with | [_, _], _ => rfl
  have b10 := F10.binds (ps := ["_law_state", "_law_base"]) fun _ _ _ _ _ _ us hl => match us, hl with | [_, _], _ => rfl
  have b11 := F11.binds (ps := ["_law_state", "_law_ahead"]) fun _ _ _ _ _ _ us hl => match us, hl with | [_, _], _ => rfl
  have b12 := F12.binds (ps := ["_law_state", "_law_things"]) fun _ _ _ _ _ _ us hl => match us, hl with | [_, _], _ => rfl
  have b13 := F13.binds (ps := ["_law_some"]) fun _ _ _ _ _ _ us hl => match us, hl with | [_], _ => rfl
  have b14 := F14.binds (ps := ["_law_some"]) fun _ _ _ _ _ _ us hl => match us, hl with | [_], _ => rfl
  have b15 := F15.binds (ps := ["_law_pairs"]) fun _ _ _ _ _ _ us hl => match us, hl with | [_], _ => rfl
  have b16 := F16.binds (ps := ["_law_top", "_law_bottom"]) fun _ _ _ _ _ _ us hl => match us, hl with | [_, _], _ => rfl
  have b17 := F17.binds (ps := ["_law_some"]) fun _ _ _ _ _ _ us hl => match us, hl with | [_], _ => rfl
  have b18 := F18.binds (ps := ["_law_script"]) fun _ _ _ _ _ _ us hl => match us, hl with | [_], _ => rfl
  exact ⟨_, fun s v => .of_eq rfl, fun base _ _ => ok_law { a_is_number := _, d_is_number := _, F_is_number := F0, b_is_number := b0, g_is_number := PySem.W.mg_of X G a0, a_common_divisor := _, d_common_divisor := _, F_common_divisor := F1, b_common_divisor := b1, g_common_divisor := PySem.W.mg_of X G a1, a_fraction := _, d_fraction := _, F_fraction := F2, b_fraction := b2, g_fraction := PySem.W.mg_of X G a2, a_summed := _, d_summed := _, F_summed := F3, b_summed := b3, g_summed := PySem.W.mg_of X G a3, a_plus := _, d_plus := _, F_plus := F4, b_plus := b4, g_plus := PySem.W.mg_of X G a4, a_minus := _, d_minus := _, F_minus := F5, b_minus := b5, g_minus := PySem.W.mg_of X G a5, a_times := _, d_times := _, F_times := F6, b_times := b6, g_times := PySem.W.mg_of X G a6, a_less := _, d_less := _, F_less := F7, b_less := b7, g_less := PySem.W.mg_of X G a7, a_floor := _, d_floor := _, F_floor := F8, b_floor := b8, g_floor := PySem.W.mg_of X G a8, a_l_cell_at := _, d_l_cell_at := _, F_l_cell_at := F9, b_l_cell_at := b9, g_l_cell_at := PySem.W.mg_of X G a9, a_l_digit := _, d_l_digit := _, F_l_digit := F10, b_l_digit := b10, g_l_digit := PySem.W.mg_of X G a10, a_l_drawn := _, d_l_drawn := _, F_l_drawn := F11, b_l_drawn := b11, g_l_drawn := PySem.W.mg_of X G a11, a_l_mixed := _, d_l_mixed := _, F_l_mixed := F12, b_l_mixed := b12, g_l_mixed := PySem.W.mg_of X G a12, a_l_sum := _, d_l_sum := _, F_l_sum := F13, b_l_sum := b13, g_l_sum := PySem.W.mg_of X G a13, a_l_product := _, d_l_product := _, F_l_product := F14, b_l_product := b14, g_l_product := PySem.W.mg_of X G a14, a_l_worth := _, d_l_worth := _, F_l_worth := F15, b_l_worth := b15, g_l_worth := PySem.W.mg_of X G a15, a_l_lowest := _, d_l_lowest := _, F_l_lowest := F16, b_l_lowest := b16, g_l_lowest := PySem.W.mg_of X G a16, a_l_order_right := _, d_l_order_right := _, F_l_order_right := F17, b_l_order_right := b17, g_l_order_right := PySem.W.mg_of X G a17, a_law := _, d_law := _, F_law := F18, b_law := b18, g_law := PySem.W.mg_of X G a18, m_abs := PySem.W.mg_none_of X G z_abs, m_bool := PySem.W.mg_none_of X G z_bool, m_int := PySem.W.mg_none_of X G z_int, m_isinstance := PySem.W.mg_none_of X G z_isinstance, m_len := PySem.W.mg_none_of X G z_len, m_list := PySem.W.mg_none_of X G z_list, m_sum := PySem.W.mg_none_of X G z_sum, c_ScrollError := C_ScrollError, g_ScrollError := PySem.W.mg_of X G g_ScrollError, c_NoFraction := C_NoFraction, g_NoFraction := PySem.W.mg_of X G g_NoFraction, x_NoFraction := x_NoFraction, k_NoFraction := kc_NoFraction, bb_NoFraction := bb_NoFraction, t_NoFraction := t_NoFraction, xc_NoFraction := ⟨xa_NoFraction, xb_NoFraction, bb_NoFraction, xc_NoFraction, xd_NoFraction, xe_NoFraction, xf_NoFraction, xg_NoFraction⟩ }⟩
end LK
open PySem PySem.W PyProof.Rows
set_option maxHeartbeats 0 in
theorem PySem.Challenge.cw_lanescroll_k10_whole_fractions_in_any_or_holds : PySem.Challenge.rw_lanescroll_k10_whole_fractions_in_any_or.Holds := by
  w_on; o_law; k_head; (case hw => w_witness2)
  k_fill
  refine L2.walk_of (l := PySem.Challenge.rw_lanescroll_k10_whole_fractions_in_any_or) (n := 63) (k := 5) (x := "_law_script") (CX := fun _ => L2.CX0) (sp := fun w => LK.spLaw _) rfl (by decide) rfl ⟨rfl, by decide, by decide⟩ (fun w h Y => PySem.W.kIn_of Y) ?F (fun _ _ a ns hl _ hS => ⟨a, ns, rfl, hS, hl, fun _ => rfl⟩) (fun _ _ _ _ _ h => h)
  case F =>
    intro w mg fa h KX G hmg
    refine' LK.all_mk KX G hmg ?a0 ?l0 ?c0 ?k0 ?a1 ?l1 ?c1 ?k1 ?a2 ?l2 ?c2 ?k2 ?e2 ?q2 ?a3 ?l3 ?c3 ?k3 ?a4 ?l4 ?c4 ?k4 ?a5 ?l5 ?c5 ?k5 ?a6 ?l6 ?c6 ?k6 ?a7 ?l7 ?c7 ?k7 ?a8 ?l8 ?c8 ?k8 ?a9 ?l9 ?c9 ?k9 ?a10 ?l10 ?c10 ?k10 ?a11 ?l11 ?c11 ?k11 ?a12 ?l12 ?c12 ?k12 ?a13 ?l13 ?c13 ?k13 ?a14 ?l14 ?c14 ?k14 ?a15 ?l15 ?c15 ?k15 ?a16 ?l16 ?c16 ?k16 ?a17 ?l17 ?c17 ?k17 ?a18 ?l18 ?c18 ?k18 ?z_abs ?z_bool ?z_int ?z_isinstance ?z_len ?z_list ?z_sum ?g_ScrollError ?g_NoFraction ?x_NoFraction ?kc_NoFraction ?bb_NoFraction ?t_NoFraction ?xa_NoFraction ?xb_NoFraction ?xc_NoFraction ?xd_NoFraction ?xe_NoFraction ?xf_NoFraction ?xg_NoFraction
    (case a0 => k_is)
    (case l0 => k_is)
    (case c0 => k_is)
    (case k0 => k_is)
    (case a1 => k_is)
    (case l1 => k_is)
    (case c1 => k_is)
    (case k1 => k_is)
    (case a2 => k_is)
    (case l2 => k_is)
    (case c2 => k_is)
    (case k2 => k_is)
    (case e2 => k_is)
    (case q2 => first | rfl | k_is | k_exc)
    (case a3 => k_is)
    (case l3 => k_is)
    (case c3 => k_is)
    (case k3 => k_is)
    (case a4 => k_is)
    (case l4 => k_is)
    (case c4 => k_is)
    (case k4 => k_is)
    (case a5 => k_is)
    (case l5 => k_is)
    (case c5 => k_is)
    (case k5 => k_is)
    (case a6 => k_is)
    (case l6 => k_is)
    (case c6 => k_is)
    (case k6 => k_is)
    (case a7 => k_is)
    (case l7 => k_is)
    (case c7 => k_is)
    (case k7 => k_is)
    (case a8 => k_is)
    (case l8 => k_is)
    (case c8 => k_is)
    (case k8 => k_is)
    (case a9 => k_is)
    (case l9 => k_is)
    (case c9 => k_is)
    (case k9 => k_is)
    (case a10 => k_is)
    (case l10 => k_is)
    (case c10 => k_is)
    (case k10 => k_is)
    (case a11 => k_is)
    (case l11 => k_is)
    (case c11 => k_is)
    (case k11 => k_is)
    (case a12 => k_is)
    (case l12 => k_is)
    (case c12 => k_is)
    (case k12 => k_is)
    (case a13 => k_is)
    (case l13 => k_is)
    (case c13 => k_is)
    (case k13 => k_is)
    (case a14 => k_is)
    (case l14 => k_is)
    (case c14 => k_is)
    (case k14 => k_is)
    (case a15 => k_is)
    (case l15 => k_is)
    (case c15 => k_is)
    (case k15 => k_is)
    (case a16 => k_is)
    (case l16 => k_is)
    (case c16 => k_is)
    (case k16 => k_is)
    (case a17 => k_is)
    (case l17 => k_is)
    (case c17 => k_is)
    (case k17 => k_is)
    (case a18 => k_is)
    (case l18 => k_is)
    (case c18 => k_is)
    (case k18 => k_is)
    (case z_abs => k_is)
    (case z_bool => k_is)
    (case z_int => k_is)
    (case z_isinstance => k_is)
    (case z_len => k_is)
    (case z_list => k_is)
    (case z_sum => k_is)
    (case g_ScrollError => k_is)
    (case g_NoFraction => k_is)
    (case x_NoFraction => k_exc)
    (case kc_NoFraction => k_is)
    (case bb_NoFraction => k_is)
    (case t_NoFraction => k_is)
    (case xa_NoFraction => k_is)
    (case xb_NoFraction => k_is)
    (case xc_NoFraction => k_is)
    (case xd_NoFraction => k_is)
    (case xe_NoFraction => k_is)
    (case xf_NoFraction => k_is)
    (case xg_NoFraction => k_is)
