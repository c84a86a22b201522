import PyProof.Rows.All
import Wide.All
import OpenK.AllK
import Wide.FinOn
import PySem.Challenge.RW_lanescroll_k02_sums_and_products
import HandS.ForMost
import HandS.ForExc
import HandS.IsInst
import HandS.TupLe
import HandS.Wide
import HandS.Defaults
import HandS.ExcIs
set_option Elab.async false
set_option linter.all false
set_option maxRecDepth 100000
set_option maxHeartbeats 4000000
namespace LK
open PySem PySem.Spec PyProof.Rows L2
def topS (i : Nat) : Stmt := PySem.Challenge.pw_lanescroll_k02_sums_and_products.main.body.getD i (.Pass ⟨0, 0, 0, 0⟩)
abbrev s_is_number : Stmt := topS 4
abbrev N_is_number : List Str := ["thing"]
theorem sc_is_number : FnScope N_is_number ["thing"] (defScope s_is_number) := ⟨rfl, rfl, rfl, by decide +kernel, rfl, by decide +kernel, by decide +kernel⟩
abbrev s_common_divisor : Stmt := topS 6
abbrev N_common_divisor : List Str := ["one", "other"]
theorem sc_common_divisor : FnScope N_common_divisor ["one", "other"] (defScope s_common_divisor) := ⟨rfl, rfl, rfl, by decide +kernel, rfl, by decide +kernel, by decide +kernel⟩
abbrev s_fraction : Stmt := topS 7
abbrev N_fraction : List Str := ["top", "bottom", "divisor"]
theorem sc_fraction : FnScope N_fraction ["top", "bottom"] (defScope s_fraction) := ⟨rfl, rfl, rfl, by decide +kernel, rfl, by decide +kernel, by decide +kernel⟩
abbrev s_summed : Stmt := topS 8
abbrev N_summed : List Str := ["one", "top", "bottom", "divisor", "part", "whole", "rest"]
theorem sc_summed : FnScope N_summed ["one", "top", "bottom"] (defScope s_summed) := ⟨rfl, rfl, rfl, by decide +kernel, rfl, by decide +kernel, by decide +kernel⟩
abbrev s_plus : Stmt := topS 9
abbrev N_plus : List Str := ["one", "other"]
theorem sc_plus : FnScope N_plus ["one", "other"] (defScope s_plus) := ⟨rfl, rfl, rfl, by decide +kernel, rfl, by decide +kernel, by decide +kernel⟩
abbrev s_minus : Stmt := topS 10
abbrev N_minus : List Str := ["one", "other"]
theorem sc_minus : FnScope N_minus ["one", "other"] (defScope s_minus) := ⟨rfl, rfl, rfl, by decide +kernel, rfl, by decide +kernel, by decide +kernel⟩
abbrev s_times : Stmt := topS 11
abbrev N_times : List Str := ["one", "other", "left", "right"]
theorem sc_times : FnScope N_times ["one", "other"] (defScope s_times) := ⟨rfl, rfl, rfl, by decide +kernel, rfl, by decide +kernel, by decide +kernel⟩
abbrev s_shared : Stmt := topS 12
abbrev N_shared : List Str := ["one", "other", "top", "bottom"]
theorem sc_shared : FnScope N_shared ["one", "other"] (defScope s_shared) := ⟨rfl, rfl, rfl, by decide +kernel, rfl, by decide +kernel, by decide +kernel⟩
abbrev s_l_cell_at : Stmt := topS 14
abbrev N_l_cell_at : List Str := ["_law_script", "_law_k"]
theorem sc_l_cell_at : FnScope N_l_cell_at ["_law_script", "_law_k"] (defScope s_l_cell_at) := ⟨rfl, rfl, rfl, by decide +kernel, rfl, by decide +kernel, by decide +kernel⟩
abbrev s_l_digit : Stmt := topS 15
abbrev N_l_digit : List Str := ["_law_state", "_law_base", "_law_found", "_law_number"]
theorem sc_l_digit : FnScope N_l_digit ["_law_state", "_law_base"] (defScope s_l_digit) := ⟨rfl, rfl, rfl, by decide +kernel, rfl, by decide +kernel, by decide +kernel⟩
abbrev s_l_great : Stmt := topS 16
abbrev N_l_great : List Str := ["_law_state", "_law_few", "_law_number", "_law_k"]
theorem sc_l_great : FnScope N_l_great ["_law_state", "_law_few"] (defScope s_l_great) := ⟨rfl, rfl, rfl, by decide +kernel, rfl, by decide +kernel, by decide +kernel⟩
abbrev s_l_shared : Stmt := topS 17
abbrev N_l_shared : List Str := ["_law_left", "_law_right"]
theorem sc_l_shared : FnScope N_l_shared ["_law_left", "_law_right"] (defScope s_l_shared) := ⟨rfl, rfl, rfl, by decide +kernel, rfl, by decide +kernel, by decide +kernel⟩
abbrev s_l_lowest : Stmt := topS 18
abbrev N_l_lowest : List Str := ["_law_top", "_law_bottom", "_law_share"]
theorem sc_l_lowest : FnScope N_l_lowest ["_law_top", "_law_bottom"] (defScope s_l_lowest) := ⟨rfl, rfl, rfl, by decide +kernel, rfl, by decide +kernel, by decide +kernel⟩
abbrev s_l_drawn : Stmt := topS 19
abbrev N_l_drawn : List Str := ["_law_state", "_law_top"]
theorem sc_l_drawn : FnScope N_l_drawn ["_law_state"] (defScope s_l_drawn) := ⟨rfl, rfl, rfl, by decide +kernel, rfl, by decide +kernel, by decide +kernel⟩
abbrev s_l_second : Stmt := topS 20
abbrev N_l_second : List Str := ["_law_state", "_law_left", "_law_right", "_law_way"]
theorem sc_l_second : FnScope N_l_second ["_law_state", "_law_left"] (defScope s_l_second) := ⟨rfl, rfl, rfl, by decide +kernel, rfl, by decide +kernel, by decide +kernel⟩
abbrev s_l_alike : Stmt := topS 21
abbrev N_l_alike : List Str := ["_law_found", "_law_top", "_law_bottom", "_law_number"]
theorem sc_l_alike : FnScope N_l_alike ["_law_found", "_law_top", "_law_bottom"] (defScope s_l_alike) := ⟨rfl, rfl, rfl, by decide +kernel, rfl, by decide +kernel, by decide +kernel⟩
abbrev s_l_share_right : Stmt := topS 22
abbrev N_l_share_right : List Str := ["_law_left", "_law_right", "_law_refused", "_law_found", "e"]
theorem sc_l_share_right : FnScope N_l_share_right ["_law_left", "_law_right"] (defScope s_l_share_right) := ⟨rfl, rfl, rfl, by decide +kernel, rfl, by decide +kernel, by decide +kernel⟩
abbrev s_l_all_right : Stmt := topS 23
abbrev N_l_all_right : List Str := ["_law_left", "_law_right", "_law_bottom"]
theorem sc_l_all_right : FnScope N_l_all_right ["_law_left", "_law_right"] (defScope s_l_all_right) := ⟨rfl, rfl, rfl, by decide +kernel, rfl, by decide +kernel, by decide +kernel⟩
abbrev s_law : Stmt := topS 24
abbrev N_law : List Str := ["_law_script", "_law_left", "_law_right", "_law_third"]
theorem sc_law : FnScope N_law ["_law_script"] (defScope s_law) := ⟨rfl, rfl, rfl, by decide +kernel, rfl, by decide +kernel, by decide +kernel⟩
def kg_shared_one_other {α : Type} : List α → List α → List α
  | [], [w0, w1] => [w0, w1]
  | _, _ => []
def kg_minus_other_one {α : Type} : List α → List α → List α
  | [], [w0, w1] => [w1, w0]
  | _, _ => []
structure Txt (K : PySem.W.Frag) (mg : Str → Option Value) : Type where
  a_is_number : Addr
  d_is_number : FuncData
  F_is_number : Fun K "is_number" "is_number" s_is_number a_is_number d_is_number
  g_is_number : mg "is_number" = some (.ref a_is_number)
  b_is_number : Binds K d_is_number ["thing"] []
  a_common_divisor : Addr
  d_common_divisor : FuncData
  F_common_divisor : Fun K "common_divisor" "common_divisor" s_common_divisor a_common_divisor d_common_divisor
  g_common_divisor : mg "common_divisor" = some (.ref a_common_divisor)
  b_common_divisor : Binds K d_common_divisor ["one", "other"] []
  a_fraction : Addr
  d_fraction : FuncData
  F_fraction : FunD K "fraction" "fraction" (defArgs s_fraction) (defBody s_fraction) (defScope s_fraction) [V.int 1] [] a_fraction d_fraction
  g_fraction : mg "fraction" = some (.ref a_fraction)
  b_fraction : Binds K d_fraction ["top", "bottom"] []
  a_summed : Addr
  d_summed : FuncData
  F_summed : Fun K "summed" "summed" s_summed a_summed d_summed
  g_summed : mg "summed" = some (.ref a_summed)
  b_summed : Binds K d_summed ["one", "top", "bottom"] []
  a_plus : Addr
  d_plus : FuncData
  F_plus : Fun K "plus" "plus" s_plus a_plus d_plus
  g_plus : mg "plus" = some (.ref a_plus)
  b_plus : Binds K d_plus ["one", "other"] []
  a_minus : Addr
  d_minus : FuncData
  F_minus : Fun K "minus" "minus" s_minus a_minus d_minus
  g_minus : mg "minus" = some (.ref a_minus)
  b_minus : Binds K d_minus ["one", "other"] []
  a_times : Addr
  d_times : FuncData
  F_times : Fun K "times" "times" s_times a_times d_times
  g_times : mg "times" = some (.ref a_times)
  b_times : Binds K d_times ["one", "other"] []
  a_shared : Addr
  d_shared : FuncData
  F_shared : Fun K "shared" "shared" s_shared a_shared d_shared
  g_shared : mg "shared" = some (.ref a_shared)
  b_shared : Binds K d_shared ["one", "other"] []
  a_l_cell_at : Addr
  d_l_cell_at : FuncData
  F_l_cell_at : Fun K "_law_cell_at" "_law_cell_at" s_l_cell_at a_l_cell_at d_l_cell_at
  g_l_cell_at : mg "_law_cell_at" = some (.ref a_l_cell_at)
  b_l_cell_at : Binds K d_l_cell_at ["_law_script", "_law_k"] []
  a_l_digit : Addr
  d_l_digit : FuncData
  F_l_digit : Fun K "_law_digit" "_law_digit" s_l_digit a_l_digit d_l_digit
  g_l_digit : mg "_law_digit" = some (.ref a_l_digit)
  b_l_digit : Binds K d_l_digit ["_law_state", "_law_base"] []
  a_l_great : Addr
  d_l_great : FuncData
  F_l_great : Fun K "_law_great" "_law_great" s_l_great a_l_great d_l_great
  g_l_great : mg "_law_great" = some (.ref a_l_great)
  b_l_great : Binds K d_l_great ["_law_state", "_law_few"] []
  a_l_shared : Addr
  d_l_shared : FuncData
  F_l_shared : Fun K "_law_shared" "_law_shared" s_l_shared a_l_shared d_l_shared
  g_l_shared : mg "_law_shared" = some (.ref a_l_shared)
  b_l_shared : Binds K d_l_shared ["_law_left", "_law_right"] []
  a_l_lowest : Addr
  d_l_lowest : FuncData
  F_l_lowest : Fun K "_law_lowest" "_law_lowest" s_l_lowest a_l_lowest d_l_lowest
  g_l_lowest : mg "_law_lowest" = some (.ref a_l_lowest)
  b_l_lowest : Binds K d_l_lowest ["_law_top", "_law_bottom"] []
  a_l_drawn : Addr
  d_l_drawn : FuncData
  F_l_drawn : Fun K "_law_drawn" "_law_drawn" s_l_drawn a_l_drawn d_l_drawn
  g_l_drawn : mg "_law_drawn" = some (.ref a_l_drawn)
  b_l_drawn : Binds K d_l_drawn ["_law_state"] []
  a_l_second : Addr
  d_l_second : FuncData
  F_l_second : Fun K "_law_second" "_law_second" s_l_second a_l_second d_l_second
  g_l_second : mg "_law_second" = some (.ref a_l_second)
  b_l_second : Binds K d_l_second ["_law_state", "_law_left"] []
  a_l_alike : Addr
  d_l_alike : FuncData
  F_l_alike : Fun K "_law_alike" "_law_alike" s_l_alike a_l_alike d_l_alike
  g_l_alike : mg "_law_alike" = some (.ref a_l_alike)
  b_l_alike : Binds K d_l_alike ["_law_found", "_law_top", "_law_bottom"] []
  a_l_share_right : Addr
  d_l_share_right : FuncData
  F_l_share_right : Fun K "_law_share_right" "_law_share_right" s_l_share_right a_l_share_right d_l_share_right
  g_l_share_right : mg "_law_share_right" = some (.ref a_l_share_right)
  b_l_share_right : Binds K d_l_share_right ["_law_left", "_law_right"] []
  a_l_all_right : Addr
  d_l_all_right : FuncData
  F_l_all_right : Fun K "_law_all_right" "_law_all_right" s_l_all_right a_l_all_right d_l_all_right
  g_l_all_right : mg "_law_all_right" = some (.ref a_l_all_right)
  b_l_all_right : Binds K d_l_all_right ["_law_left", "_law_right"] []
  a_law : Addr
  d_law : FuncData
  F_law : Fun K "law" "law" s_law a_law d_law
  g_law : mg "law" = some (.ref a_law)
  b_law : Binds K d_law ["_law_script"] []
  kb_shared_one_other : KBn K d_shared ["one", "other"] 0 ["one", "other"] (fun us ws => kg_shared_one_other us ws) (fun us ws => kg_shared_one_other us ws)
  kb_minus_other_one : KBn K d_minus ["one", "other"] 0 ["other", "one"] (fun us ws => kg_minus_other_one us ws) (fun us ws => kg_minus_other_one us ws)
  m_abs : mg "abs" = none
  m_bool : mg "bool" = none
  m_int : mg "int" = none
  m_isinstance : mg "isinstance" = none
  m_len : mg "len" = none
  m_range : mg "range" = none
  m_tuple : mg "tuple" = none
  c_ScrollError : Addr
  g_ScrollError : mg "ScrollError" = some (.ref c_ScrollError)
  c_NoFraction : Addr
  g_NoFraction : mg "NoFraction" = some (.ref c_NoFraction)
  x_NoFraction : PySem.W.excIn K c_NoFraction [.type "ValueError", .type "Exception", .type "BaseException", .type "object"] "ValueError.__new__" = true
  k_NoFraction : PySem.W.keepIn K (.ref c_NoFraction) = true
  bb_NoFraction : PySem.W.subIn K (.ref c_NoFraction) (.type "BaseException") = some true
  t_NoFraction : PySem.W.typeIn K (.ref c_NoFraction) = some (.type "type")
  xc_NoFraction : ExcC K c_NoFraction
  em_NoFraction_ScrollError : PySem.W.exmOne K (.ref c_NoFraction) (.ref c_ScrollError) = some true
  io_NoFraction_NoFraction : PySem.W.kitOne K (.ref c_NoFraction) (.ref c_NoFraction) = some true
/-! ### heaps -/
/-- all but what stands at p is as it was -/
def Frm (p : Addr) (H H' : Hp) : Prop := ∀ b o, b ≠ p → H b = some o → H' b = some o
theorem Frm.get {p q : Addr} {H H' : Hp} {o : HO} (f : Frm p H H') (n : q ≠ p) (h : H q = some o) : H' q = some o := f q o n h
theorem Frm.refl {p : Addr} {H : Hp} : Frm p H H := fun _ _ _ h => h
theorem Frm.trans {p : Addr} {H H1 H2 : Hp} (a : Frm p H H1) (b : Frm p H1 H2) : Frm p H H2 := fun c o n h => b c o n (a c o n h)
theorem Frm.upd {p : Addr} {H : Hp} {o : HO} : Frm p H (upd H p o) := fun c u n h => by rw [upd_ne n]; exact h
theorem upd_old {H : Hp} {a q : Addr} {o o' : HO} (na : H a = none) (h : H q = some o) : upd H a o' q = some o := by
  rw [upd_ne (ne_of_none h na)]; exact h
theorem upd_oth {H : Hp} {a q : Addr} {o o' : HO} (na : q ≠ a) (h : H q = some o) : upd H a o' q = some o := by
  rw [upd_ne na]; exact h
theorem Frm.new {p a : Addr} {H H' : Hp} {o : HO} (f : Frm p H H') (na : H' a = none) : Frm p H (L2.upd H' a o) := fun c u n h => upd_old na (f c u n h)
theorem Frm.upd2 {p : Addr} {H H' : Hp} {o : HO} (f : Frm p H H') : Frm p H (L2.upd H' p o) := f.trans .upd
theorem Frm.own {p a : Addr} {H H' : Hp} {o : HO} (f : Frm p H H') (na : H a = none) : Frm p H (L2.upd H' a o) := fun c u n h => upd_oth (ne_of_none h na) (f c u n h)
theorem Frm.new2 {p a : Addr} {H H' : Hp} {o o2 : HO} (f : Frm p H H') (na : H' a = none) : Frm p H (L2.upd (L2.upd H' a o2) a o) := by rw [upd_upd]; exact f.new na
theorem upd_old2 {H : Hp} {a q : Addr} {o o' o2 : HO} (na : H a = none) (h : H q = some o) : upd (upd H a o2) a o' q = some o := by rw [upd_upd]; exact upd_old na h
theorem new_ne {H : Hp} {a q : Addr} {o : HO} (na : H a = none) (h : H q = some o) : a ≠ q := fun e => by subst e; rw [na] at h; cases h
theorem Same.get {q : Addr} {H H' : Hp} {o : HO} (f : Same H H') (h : H q = some o) : H' q = some o := f q o h
theorem Same.new {a : Addr} {H H' : Hp} {o : HO} (f : Same H H') (na : H' a = none) : Same H (L2.upd H' a o) := fun c u h => upd_old na (f c u h)
theorem Same.new2 {a : Addr} {H H' : Hp} {o o2 : HO} (f : Same H H') (na : H' a = none) : Same H (L2.upd (L2.upd H' a o2) a o) := by rw [upd_upd]; exact Same.new f na
theorem Same.own {a : Addr} {H H' : Hp} {o : HO} (f : Same H H') (na : H a = none) : Same H (L2.upd H' a o) := fun c u h => upd_oth (ne_of_none h na) (f c u h)
theorem Same.frm {p : Addr} {H H' : Hp} (f : Same H H') : Frm p H H' := fun c u _ h => f c u h
/-- what is new to an elder heap and stands apart is no matter -/
theorem Frm.same {p : Addr} {H H' : Hp} (f : Frm p H H') (n : H p = none) : Same H H' := fun c u h => f c u (ne_of_none h n) h
theorem Same.byFrm {p : Addr} {H H1 H2 : Hp} (f : Same H H1) (g : Frm p H1 H2) (n : H p = none) : Same H H2 := fun c u h => g c u (ne_of_none h n) (f c u h)
theorem Frm.none {p q : Addr} {H H' : Hp} (f : Frm p H H') (n : q ≠ p) (h : H' q = none) : H q = none := by
  cases e : H q with
  | none => rfl
  | some o => rw [f q o n e] at h; cases h
theorem Same.none {q : Addr} {H H' : Hp} (f : Same H H') (h : H' q = none) : H q = none := by
  cases e : H q with
  | none => rfl
  | some o => rw [f q o e] at h; cases h
/-! ### sizes, ifs -/
theorem szb {n : Nat} (h : n ≤ 16000000) : n ≤ sizeLine := Nat.le_trans h (by decide)
theorem szbl {n : Nat} (h : n ≤ 16000000) : n < sizeLine := Nat.lt_of_le_of_lt h (by decide)
theorem sz {n : Nat} (h : Nat.ble n 1000 = true) : n ≤ sizeLine := Nat.le_trans (Nat.le_of_ble_eq_true h) (by decide)
theorem szl {n : Nat} (h : Nat.ble n 1000 = true) : n < sizeLine := Nat.lt_of_le_of_lt (Nat.le_of_ble_eq_true h) (by decide)
theorem szn {n : Nat} (h : n ≤ 1000) : n ≤ sizeLine := Nat.le_trans h (by decide)
theorem sznl {n : Nat} (h : n ≤ 1000) : n < sizeLine := Nat.lt_of_le_of_lt h (by decide)
theorem ifT {c : Bool} {A B : Prop} (h : c = true) (a : A) : if c = true then A else B := by rw [if_pos h]; exact a
theorem ifF {c : Bool} {A B : Prop} (h : c = false) (b : B) : if c = true then A else B := by rw [h, if_neg Bool.false_ne_true]; exact b
theorem ifC {c : Bool} {A B : Prop} (a : c = true → A) (b : c = false → B) : if c = true then A else B := by
  cases c with
  | true => exact ifT rfl (a rfl)
  | false => exact ifF rfl (b rfl)
theorem ifAnd {k1 k2 : Bool} {A : Prop} {Q : VK} {H : Hp} (a : Q (.bl k2) H → A) (h : Q (.bl (k1 && k2)) H) : if k1 = true then A else Q (.bl false) H := by
  cases k1 with
  | true => exact ifT rfl (a h)
  | false => exact ifF rfl h
/-! ### items at a drawn place -/
theorem at_nn {α : Type} {xs : List α} {d : Int} (h0 : 0 ≤ d) (h1 : d < xs.length) : ∃ v, atI xs d = some v ∧ v ∈ xs ∧ xs[d.toNat]? = some v := by
  have h2 : d.toNat < xs.length := by omega
  have e : (d.toNat : Int) = d := by omega
  have k := atI_nat (List.getElem?_eq_getElem h2)
  rw [e] at k
  exact ⟨xs[d.toNat], k, List.getElem_mem h2, List.getElem?_eq_getElem h2⟩
theorem ixP {K : PySem.W.Frag} {H : Hp} {Q : VK} {p : Addr} {xs : List V} {d : Int} (R : V → Prop) (hp : SqL K H p xs) (h0 : 0 ≤ d) (h1 : d < xs.length) (all : ∀ v ∈ xs, R v) (k : ∀ v, R v → Q v H) : rIxL K (.ref p) (.int d) H Q := by
  obtain ⟨v, e, m, _⟩ := at_nn h0 h1
  exact ⟨_, _, _, _, rfl, rfl, hp, e, k v (all v m)⟩
theorem ixG {K : PySem.W.Frag} {H : Hp} {Q : VK} {p : Addr} {xs : List V} {d : Int} (hp : SqL K H p xs) (h0 : 0 ≤ d) (h1 : d < xs.length) (k : ∀ v, xs[d.toNat]? = some v → Q v H) : rIxL K (.ref p) (.int d) H Q := by
  obtain ⟨v, e, _, m⟩ := at_nn h0 h1
  exact ⟨_, _, _, _, rfl, rfl, hp, e, k v m⟩
def isI : V → Bool
  | .int _ => true
  | _ => false
theorem ixI {K : PySem.W.Frag} {H : Hp} {Q : VK} {p : Addr} {xs : List V} {d : Int} (hp : SqL K H p xs) (h0 : 0 ≤ d) (h1 : d < xs.length) (all : xs.all isI = true) (k : ∀ i, V.int i ∈ xs → Q (.int i) H) : rIxL K (.ref p) (.int d) H Q := by
  refine ixP (fun v => (∃ i, v = .int i) ∧ v ∈ xs) hp h0 h1 (fun v hv => ⟨?_, hv⟩) (fun v ⟨⟨i, e⟩, m⟩ => ?_)
  · have := List.all_eq_true.mp all v hv
    cases v <;> first | exact ⟨_, rfl⟩ | cases this
  · subst e; exact k i m
/-! ### a call with keywords alone -/
section
variable {X : Cx} {CX : CXT} {k : Nat} {f : Addr} {fd : FuncData} {ps ks : List Str} {sp : Sp} {E : XK} {x : Str} {p pos : Pos} {kws : List Keyword} {tk : TA} {g : List Value → List Value → List Value} {gV : List V → List V → List V}
theorem pe_callN0 (F : FnOk X.prog X.w X.K X.mg X.base CX k f fd ps sp) (hr : Room k X.A) (hg : Gl X x) (hm : X.mg x = some (.ref f)) (hk : PySem.W.keepIn X.K (.ref f) = true) (hb : KBn X.K fd ps 0 ks g gV) (hx : Passes CX X E)
    (hkw : PK X kws tk) (hall : (backToKw pos (keywordEach kws X.env)).all (·.1.isSome) = true := by rfl) (hks : (backToKw pos (keywordEach kws X.env)).filterMap (·.1) = ks := by rfl)
    (hdb : (x == ("__debug__" : Str)) = false := by decide)
    (hpl : ((backTo pos (starEach [] X.env)).any (·.1) || (backToKw pos (keywordEach kws X.env)).any (·.1.isNone)) = false := by rfl) :
    PE X (.Call (.Name x p) [] kws pos) (tCallN 0 ks.length sp gV E tNil tk) := by
  refine ⟨fun pins s σ H Q I h => ?_⟩
  refine wpAny_Call_Name_kw (ld_glob I hg hm ?_ hdb)
  refine PySem.W.callWith_KW0 (h₀ := X.base) I.ok.mod.kin hk hall (thn (hkw.run pos pins s σ H _ I h) fun ws s2 ⟨zs, H2, I2, rz, l1, l2, q2⟩ => ⟨I2.kIn, ?_⟩) hpl
  rw [hks]
  exact run_fnN F hr hb hx I2 .nil rz rfl l2 q2
end
section
variable {K : PySem.W.Frag} {x qual : Str} {st : Stmt} {f : Addr} {fd : FuncData} {ps ks : List Str} {n : Nat}
theorem kbAll {F : Fun K x qual st f fd} {g : {α : Type} → List α → List α → List α} (h : ∀ (kV doc pm : Value) (an : Option Addr) (cdv ct : Value) (us ws : List Value), us.length = n → ws.length = ks.length →
    bindArgs (PySem.W.fnOf x qual (defArgs st) (defBody st) (defScope st) .none kV doc pm an cdv ct) ⟨us, ks.zip ws⟩ = pure (ps.zip (g us ws)))
    (hrel : ∀ {vs : List V} {us : List Value} {zs : List V} {ws : List Value}, Vals vs us → Vals zs ws → Vals (g vs zs) (g us ws)) : KBn K fd ps n ks (fun us ws => g us ws) (fun us ws => g us ws) := by
  obtain ⟨oc, od, kV, doc, pm, an, cdv, ct, osl, rfl, lk, hcd⟩ := F.ex
  exact ⟨fun s us ws _ h1 h2 => .of_eq (h kV doc pm an cdv ct us ws h1 h2), fun r1 r2 => hrel r1 r2⟩
variable {params : Arguments} {body : List Stmt} {scope : Scope} {dvs : List V}
theorem bindsAll {F : FunD K x qual params body scope dvs [] f fd}
    (h : ∀ (T : Addr) (kV doc pm : Value) (an : Option Addr) (cdv ct : Value) (us its : List Value), us.length = ps.length → its.length = dvs.length →
      ∃ k, bindArgs (PySem.W.fnOf x qual params body scope (.ref T) kV doc pm an cdv ct) ⟨us, []⟩ = seqItems? (.ref T) >>= k ∧ k (some its.toArray) = pure (ps.zip us)) (hd : dvs ≠ []) : Binds K fd ps [] := by
  obtain ⟨ds, hv, hb⟩ := F.binds1 (ps := ps) ps.length dvs.length hd (by omega) (fun T kV doc pm an cdv ct us its h1 h2 => by
    obtain ⟨k, e1, e2⟩ := h T kV doc pm an cdv ct us its h1 h2
    refine ⟨k, e1, ?_⟩
    rw [e2, ← h2, List.drop_length, List.append_nil])
  rw [List.drop_length] at hv
  cases hv
  exact hb
theorem kbAllD {F : FunD K x qual params body scope dvs [] f fd} {g : {α : Type} → List α → List α → List α}
    (h : ∀ (T : Addr) (kV doc pm : Value) (an : Option Addr) (cdv ct : Value) (us its ws : List Value), us.length = n → its.length = dvs.length → ws.length = ks.length →
      ∃ k, bindArgs (PySem.W.fnOf x qual params body scope (.ref T) kV doc pm an cdv ct) ⟨us, ks.zip ws⟩ = seqItems? (.ref T) >>= k ∧ k (some its.toArray) = pure (ps.zip (g us ws))) (hd : dvs ≠ [])
    (hrel : ∀ {vs : List V} {us : List Value} {zs : List V} {ws : List Value}, Vals vs us → Vals zs ws → Vals (g vs zs) (g us ws)) : KBn K fd ps n ks (fun us ws => g us ws) (fun us ws => g us ws) := by
  obtain ⟨oc, od, dV, kV, doc, pm, an, cdv, ct, osl, rfl, lk, hcd, hD, hK⟩ := F.ex
  rcases hD with ⟨e, _⟩ | ⟨_, T, o, its, m, rfl, lT, oT, rT⟩
  · exact absurd e hd
  · refine ⟨fun s us ws X l1 l2 => ?_, fun r1 r2 => hrel r1 r2⟩
    obtain ⟨k, e1, e2⟩ := h T kV doc pm an cdv ct us its ws l1 rT.length.symm l2
    refine BindsTo.of_looks fun M => ?_
    rw [e1]
    exact looks_items X lT oT (.of_pure e2)
theorem exm_by {K : PySem.W.Frag} {C S : Addr} {b : Bool} (h1 : PySem.W.subIn K (.ref S) (.type "BaseException") = some true) (h2 : PySem.W.isClsIn K S = true) (h3 : PySem.W.typeIn K (.ref S) = some (.type "type")) (h4 : PySem.W.subIn K (.ref C) (.ref S) = some b) :
    PySem.W.exmOne K (.ref C) (.ref S) = some b := by
  have e1 : (PySem.W.subIn K (.ref S) (.type "BaseException") == some true) = true := by rw [h1] <;> rfl
  have e2 : ((PySem.W.clsIn K S).isSome && PySem.W.typeIn K (.ref S) == some (.type "type")) = true := by
    have h2' : (PySem.W.clsIn K S).isSome = true := h2
    rw [h2', h3] <;> rfl
  show (if (PySem.W.subIn K (.ref S) (.type "BaseException") == some true) = true then (if ((PySem.W.clsIn K S).isSome && PySem.W.typeIn K (.ref S) == some (.type "type")) = true then PySem.W.subIn K (.ref C) (.ref S) else none) else none) = some b
  rw [if_pos e1, if_pos e2]
  exact h4
end
/-! ### a < b < c of whole numbers, as one answer -/
def MonoE (t : TE) : Prop := ∀ (σ : L2.St) (H : Hp) (Q Q' : VK), (∀ v H', Q v H' → Q' v H') → t σ H Q → t σ H Q'
theorem mn_var {i : Nat} : MonoE (tVar i) := fun _ _ _ _ k ⟨v, e, q⟩ => ⟨v, e, k _ _ q⟩
theorem mn_c {v : V} : MonoE (tC v) := fun _ _ _ _ k q => k _ _ q
theorem mn_I0 {g : Int → Int → V} {ta tb : TE} (a : MonoE ta) (b : MonoE tb) : MonoE (tOp (rI0 g) ta tb) := fun σ H Q Q' k h =>
  a σ H _ _ (fun _ H1 h1 => b σ H1 _ _ (fun _ _ ⟨i, j, e1, e2, q⟩ => ⟨i, j, e1, e2, k _ _ q⟩) h1) h
theorem mn_I {C : Int → Int → Prop} {g : Int → Int → V} {ta tb : TE} (a : MonoE ta) (b : MonoE tb) : MonoE (tOp (rI C g) ta tb) := fun σ H Q Q' k h =>
  a σ H _ _ (fun _ H1 h1 => b σ H1 _ _ (fun _ _ ⟨i, j, e1, e2, c, q⟩ => ⟨i, j, e1, e2, c, k _ _ q⟩) h1) h
theorem mn_ixL {K : PySem.W.Frag} {ta tb : TE} (a : MonoE ta) (b : MonoE tb) : MonoE (tOp (rIxL K) ta tb) := fun σ H Q Q' k h =>
  a σ H _ _ (fun _ H1 h1 => b σ H1 _ _ (fun _ _ ⟨p, xs, i, v, e1, e2, s, e, q⟩ => ⟨p, xs, i, v, e1, e2, s, e, k _ _ q⟩) h1) h
theorem mn_ixT {K : PySem.W.Frag} {ta tb : TE} (a : MonoE ta) (b : MonoE tb) : MonoE (tOp (rIxT K) ta tb) := fun σ H Q Q' k h =>
  a σ H _ _ (fun _ H1 h1 => b σ H1 _ _ (fun _ _ ⟨p, xs, i, v, e1, e2, s, e, q⟩ => ⟨p, xs, i, v, e1, e2, s, e, k _ _ q⟩) h1) h
theorem mn_len {r : List V → Hp → VK → Prop} {ta : TE} (a : MonoE ta) (hr : ∀ vs H (Q Q' : VK), (∀ v H', Q v H' → Q' v H') → r vs H Q → r vs H Q') : MonoE (tCB r (tCons ta tNil)) := fun σ H Q Q' k h =>
  a σ H _ _ (fun _ H1 h1 => hr _ _ _ _ k h1) h
def tChI (g g' : Int → Int → Bool) (ta tb tc : TE) : TE := fun σ H Q => ta σ H fun x H1 => tb σ H1 fun y H2 => tc σ H2 fun z H3 => ∃ i j l : Int, x = .int i ∧ y = .int j ∧ z = .int l ∧ H3 = H2 ∧ Q (.bl (g i j && g' j l)) H2
/-- what c's reading tells is told at once: c changes nothing -/
theorem tChI_to {g g' : Int → Int → Bool} {ta tb tc : TE} (ma : MonoE ta) (mb : MonoE tb) (mc : MonoE tc) {σ : L2.St} {H : Hp} {Q : VK} (cx : ∀ (σ : L2.St) (H : Hp) (Q : V → Hp → Prop), tc σ H Q → ∃ v H', Q v H') (h : tChI g g' ta tb tc σ H Q) :
    tChain (rI0 fun i j => .bl (g i j)) (rI0 fun i j => .bl (g' i j)) ta tb tc σ H Q := by
  refine ma σ H _ _ (fun x H1 h1 => mb σ H1 _ _ (fun y H2 h2 => ?_) h1) h
  obtain ⟨_, _, i, j, l, ex, ey, _, _, q⟩ := cx _ _ _ h2
  refine ⟨i, j, ex, ey, _, rfl, ?_⟩
  cases e : g i j with
  | true =>
    refine ifT rfl (mc σ H2 _ _ (fun z H3 h3 => ?_) h2)
    obtain ⟨i', j', l', ex', ey', ez, e3, q'⟩ := h3
    have e1 : i' = i := V.int.inj (ex'.symm.trans ex)
    have e2 : j' = j := V.int.inj (ey'.symm.trans ey)
    subst e1 e2 ez e3
    rw [e, Bool.true_and] at q'
    exact ⟨j', l', ey, rfl, q'⟩
  | false =>
    rw [e, Bool.false_and] at q
    exact ifF rfl q
def ShowsE (t : TE) : Prop := ∀ (σ : L2.St) (H : Hp) (Q : V → Hp → Prop), t σ H Q → ∃ v H', Q v H'
theorem sh_var {i : Nat} : ShowsE (tVar i) := fun _ _ _ ⟨v, _, q⟩ => ⟨v, _, q⟩
theorem sh_c {v : V} : ShowsE (tC v) := fun _ _ _ q => ⟨_, _, q⟩
theorem sh_I0 {g : Int → Int → V} {ta tb : TE} (a : ShowsE ta) (b : ShowsE tb) : ShowsE (tOp (rI0 g) ta tb) := fun σ H Q h => by
  obtain ⟨x, H1, h1⟩ := a _ _ _ h
  obtain ⟨y, H2, h2⟩ := b _ _ _ h1
  obtain ⟨i, j, _, _, q⟩ := h2
  exact ⟨_, _, q⟩
theorem sh_I {C : Int → Int → Prop} {g : Int → Int → V} {ta tb : TE} (a : ShowsE ta) (b : ShowsE tb) : ShowsE (tOp (rI C g) ta tb) := fun σ H Q h => by
  obtain ⟨x, H1, h1⟩ := a _ _ _ h
  obtain ⟨y, H2, h2⟩ := b _ _ _ h1
  obtain ⟨i, j, _, _, _, q⟩ := h2
  exact ⟨_, _, q⟩
theorem sh_ixL {K : PySem.W.Frag} {ta tb : TE} (a : ShowsE ta) (b : ShowsE tb) : ShowsE (tOp (rIxL K) ta tb) := fun σ H Q h => by
  obtain ⟨x, H1, h1⟩ := a _ _ _ h
  obtain ⟨y, H2, h2⟩ := b _ _ _ h1
  obtain ⟨_, _, _, _, _, _, _, _, q⟩ := h2
  exact ⟨_, _, q⟩
theorem sh_ixT {K : PySem.W.Frag} {ta tb : TE} (a : ShowsE ta) (b : ShowsE tb) : ShowsE (tOp (rIxT K) ta tb) := fun σ H Q h => by
  obtain ⟨x, H1, h1⟩ := a _ _ _ h
  obtain ⟨y, H2, h2⟩ := b _ _ _ h1
  obtain ⟨_, _, _, _, _, _, _, _, q⟩ := h2
  exact ⟨_, _, q⟩
theorem PE.weak {X : Cx} {e : Expr} {t t' : TE} (h : PE X e t) (w : ∀ σ H Q, t' σ H Q → t σ H Q) : PE X e t' := ⟨fun pins s σ H Q I q => h.run pins s σ H Q I (w _ _ _ q)⟩
theorem pe_chainI {X : Cx} {op op' : CmpOp} {g g' : Int → Int → Bool} {a b c : Expr} {ta tb tc : TE} {pos : Pos} (ho : OpR X (compareOp op) (rI0 fun i j => .bl (g i j))) (ho' : OpR X (compareOp op') (rI0 fun i j => .bl (g' i j)))
    (ha : PE X a ta) (hb : PE X b tb) (hc : PE X c tc) (ma : MonoE ta) (mb : MonoE tb) (mc : MonoE tc) (sc : ShowsE tc) (hm : lastMarks [op, op'] [b, c] = false := by rfl) : PE X (.Compare a [op, op'] [b, c] pos) (tChI g g' ta tb tc) :=
  PE.weak (pe_chain ho ho' ha hb hc hm) (fun _ _ _ h => tChI_to ma mb mc sc h)
/-! ### rules within a comprehension: the written part by its own name -/
section
variable {X : Cx} {K : PySem.W.Frag}
theorem ix_listK (h : X.K = K) : IxR X (rIxL K) := h ▸ ix_list
theorem ix_tupK (h : X.K = K) : IxR X (rIxT K) := h ▸ ix_tup
theorem sl_listK (h : X.K = K) : SlR X (rSlL K) := h ▸ sl_list
theorem call_len_seqK (h : X.K = K) : CallR X (.builtin "len") (fun xs H Q => ∃ p ys, xs = [.ref p] ∧ (SqL K H p ys ∨ SqT K H p ys) ∧ Q (.int ys.length) H) := h ▸ call_len_seq
end
/-! ### comprehensions and loops whose invariants speak of the heap at their begin -/
theorem lcL {K : PySem.W.Frag} {a : Addr} {xs : List V} {g : TG} {tt : TT} {te : TE} {vs : List Nat} {σ : L2.St} {H1 : Hp} {D : Addr} {Qd : Hp → Prop} (Pv : Hp → Nat → Hp → Prop) (h0 : Pv H1 0 (upd H1 D (.lst []))) (hl : ∀ i H, i ≤ xs.length → Pv H1 i H → SqL K H a xs)
    (hs : ∀ i x H, xs[i]? = some x → Pv H1 i H → g x (wipe σ vs) H fun σ2 H2 => wipe σ2 vs = wipe σ vs ∧ tt σ2 H2 fun b H3 =>
      if b = true then te σ2 H3 fun y H4 => ∃ acc, H4 D = some (.lst acc) ∧ acc.length < sizeLine ∧ Pv H1 (i + 1) (upd H4 D (.lst (acc ++ [y]))) else Pv H1 (i + 1) H3) (hd : ∀ H, Pv H1 xs.length H → Qd H) :
    ∃ W : Nat → Nat → Hp → Prop, (∃ m, W 0 m (upd H1 D (.lst []))) ∧ ∀ i m H, W i m H →
      ((Itl K a).stop i H ∧ Qd H) ∨ ((Itl K a).go i H ∧ ∃ Nx : Hp → Prop, (∀ H', Nx H' → ∃ m', m' < m ∧ W (i + 1) m' H') ∧ ∀ x H', (Itl K a).yld i H x H' → g x (wipe σ vs) H' fun σ2 H2 => wipe σ2 vs = wipe σ vs ∧ tt σ2 H2 fun b H3 =>
        if b = true then te σ2 H3 fun y H4 => ∃ acc, H4 D = some (.lst acc) ∧ acc.length < sizeLine ∧ Nx (upd H4 D (.lst (acc ++ [y]))) else Nx H3) := lc_list (Pv H1) h0 hl hs hd
theorem lcR {lo : Int} {n : Nat} {g : TG} {tt : TT} {te : TE} {vs : List Nat} {σ : L2.St} {H1 : Hp} {D : Addr} {Qd : Hp → Prop} (Pv : Hp → Nat → Hp → Prop) (h0 : Pv H1 0 (upd H1 D (.lst [])))
    (hs : ∀ i H, i < n → Pv H1 i H → g (.int (lo + i)) (wipe σ vs) H fun σ2 H2 => wipe σ2 vs = wipe σ vs ∧ tt σ2 H2 fun b H3 =>
      if b = true then te σ2 H3 fun y H4 => ∃ acc, H4 D = some (.lst acc) ∧ acc.length < sizeLine ∧ Pv H1 (i + 1) (upd H4 D (.lst (acc ++ [y]))) else Pv H1 (i + 1) H3) (hd : ∀ H, Pv H1 n H → Qd H) :
    ∃ W : Nat → Nat → Hp → Prop, (∃ m, W 0 m (upd H1 D (.lst []))) ∧ ∀ i m H, W i m H →
      ((Itr lo n).stop i H ∧ Qd H) ∨ ((Itr lo n).go i H ∧ ∃ Nx : Hp → Prop, (∀ H', Nx H' → ∃ m', m' < m ∧ W (i + 1) m' H') ∧ ∀ x H', (Itr lo n).yld i H x H' → g x (wipe σ vs) H' fun σ2 H2 => wipe σ2 vs = wipe σ vs ∧ tt σ2 H2 fun b H3 =>
        if b = true then te σ2 H3 fun y H4 => ∃ acc, H4 D = some (.lst acc) ∧ acc.length < sizeLine ∧ Nx (upd H4 D (.lst (acc ++ [y]))) else Nx H3) := lc_range (Pv H1) h0 hs hd
theorem forL {K : PySem.W.Frag} {a : Addr} {xs : List V} {g : TG} {tb : TS} {D : Ends} {σ : L2.St} {H : Hp} (Pv : Hp → Nat → L2.St → Hp → Prop) (h0 : Pv H 0 σ H) (hl : ∀ i σ H', i ≤ xs.length → Pv H i σ H' → SqL K H' a xs)
    (hs : ∀ i x σ H', xs[i]? = some x → Pv H i σ H' → g x σ H' fun σ2 H2 => tb { D with nx := Pv H (i + 1), ct := Pv H (i + 1), bk := D.nx } σ2 H2) (hd : ∀ σ H', Pv H xs.length σ H' → D.nx σ H') :
    ∃ W : Nat → Nat → L2.St → Hp → Prop, (∃ m, W 0 m σ H) ∧ ∀ i m σ H, W i m σ H →
      ((Itl K a).stop i H ∧ D.nx σ H) ∨ ((Itl K a).go i H ∧ ∃ N : L2.St → Hp → Prop, (∀ σ' H', N σ' H' → ∃ m', m' < m ∧ W (i + 1) m' σ' H') ∧ ∀ x H', (Itl K a).yld i H x H' → g x σ H' fun σ2 H2 => tb { D with nx := N, ct := N, bk := D.nx } σ2 H2) := for_list (Pv H) h0 hl hs hd
theorem forR {lo : Int} {n : Nat} {g : TG} {tb : TS} {D : Ends} {σ : L2.St} {H : Hp} (Pv : Hp → Nat → L2.St → Hp → Prop) (h0 : Pv H 0 σ H)
    (hs : ∀ i σ H', i < n → Pv H i σ H' → g (.int (lo + i)) σ H' fun σ2 H2 => tb { D with nx := Pv H (i + 1), ct := Pv H (i + 1), bk := D.nx } σ2 H2) (hd : ∀ σ H', Pv H n σ H' → D.nx σ H') :
    ∃ W : Nat → Nat → L2.St → Hp → Prop, (∃ m, W 0 m σ H) ∧ ∀ i m σ H, W i m σ H →
      ((Itr lo n).stop i H ∧ D.nx σ H) ∨ ((Itr lo n).go i H ∧ ∃ N : L2.St → Hp → Prop, (∀ σ' H', N σ' H' → ∃ m', m' < m ∧ W (i + 1) m' σ' H') ∧ ∀ x H', (Itr lo n).yld i H x H' → g x σ H' fun σ2 H2 => tb { D with nx := N, ct := N, bk := D.nx } σ2 H2) := for_range (Pv H) h0 hs hd
/-- a call's answer when nothing but it matters: the heap by a name -/
theorem name_heap {P : Hp → Prop} {H : Hp} (h : ∀ H', H' = H → P H') : P H := h H rfl
/-! ### isinstance of a caught error, whatever its class -/
theorem call_isE2 {X : Cx} {K : PySem.W.Frag} {a : Addr} {oe : Obj} {cls : Value} {d : Option Addr} {pn : List (Addr × Obj)} (hK : X.K = K) (hz : Zc cls d oe) (hf : ∃ vs, oe.data = .fields vs) :
    CallR (X.suite a ((a, oe) :: pn)) (.builtin "isinstance") (fun xs H Q => ∃ D, cls = .ref D ∧ d = none ∧ ExcC K D ∧ rIsE K D a xs H Q) := by
  subst hK
  intro pins s σ H xs us Q I r h
  obtain ⟨D, rfl, rfl, C, h⟩ := h
  exact call_isE C hz hf pins s σ H xs us Q I r h
/-! ### sizes of whole numbers -/
def Sm (n : Nat) (x : Int) : Prop := x.natAbs < 2 ^ n
theorem Sm.mono {a b : Nat} {x : Int} (h : Sm a x) (l : a ≤ b) : Sm b x := Nat.lt_of_lt_of_le h (Nat.pow_le_pow_right (by decide) l)
theorem Sm.mul {a b : Nat} {x y : Int} (h : Sm a x) (k : Sm b y) : Sm (a + b) (x * y) := wide_lt h k
theorem Sm.add {a b : Nat} {x y : Int} (h : Sm a x) (k : Sm b y) : Sm (a + b + 1) (x + y) := by
  have h1 := Sm.mono h (Nat.le_add_right a b)
  have h2 := Sm.mono k (Nat.le_add_left b a)
  unfold Sm at *
  rw [Nat.pow_succ]
  omega
theorem Sm.sub {a b : Nat} {x y : Int} (h : Sm a x) (k : Sm b y) : Sm (a + b + 1) (x - y) := by
  have h1 := Sm.mono h (Nat.le_add_right a b)
  have h2 := Sm.mono k (Nat.le_add_left b a)
  unfold Sm at *
  rw [Nat.pow_succ]
  omega
theorem Sm.neg {a : Nat} {x : Int} (h : Sm a x) : Sm a (-x) := by
  unfold Sm at *
  omega
theorem Sm.le {a : Nat} {x y : Int} (h : Sm a x) (l : y.natAbs ≤ x.natAbs) : Sm a y := Nat.lt_of_le_of_lt l h
theorem Sm.mulok {a b : Nat} {x y : Int} (h : Sm a x) (k : Sm b y) (ha : a ≤ 400000) (hb : b ≤ 400000) : CMulW x y := by
  refine wide_mul (a := a + 1) (b := b + 1) (Sm.mono h (Nat.le_succ a)) (Sm.mono k (Nat.le_succ b)) (Nat.succ_pos _) (Nat.succ_pos _) (by omega)
def CDivZ (_ j : Int) : Prop := j ≠ 0 ∧ Sm 8000 j
theorem op_fdivZ {X : Cx} : OpR X (binaryOp .FloorDiv) (rI CDivZ fun i j => .int (i.fdiv j)) := opI fun i j _ _ _ _ _ hc q => by
  have h : j.natAbs.log2 < 9000 := Nat.lt_of_lt_of_le (PySem.Flt.log2_lt_of (by decide) hc.2) (by decide)
  exact floordiv_int hc.1 q (.inl (PyProof.noPylong_of_log2 h))
/-! ### fractions -/
theorem gcd_turn {x y : Int} (hx : 0 ≤ x) (hy : 0 < y) : Int.gcd y (x % y) = Int.gcd x y := by
  obtain ⟨m, rfl⟩ := Int.eq_ofNat_of_zero_le hx
  obtain ⟨n, rfl⟩ := Int.eq_ofNat_of_zero_le (Int.le_of_lt hy)
  show Nat.gcd _ _ = Nat.gcd _ _
  rw [← Int.natCast_emod]
  simp only [Int.natAbs_natCast]
  rw [Nat.gcd_comm m n, Nat.gcd_rec n m, Nat.gcd_comm]
theorem gcd_abs (x y : Int) : Int.gcd (if x < 0 then -x else x) (if y < 0 then -y else y) = Int.gcd x y := by
  split <;> split <;> simp [Int.gcd]
theorem gcd_pos {t b : Int} (h : b ≠ 0) : (0 : Int) < (Int.gcd t b : Nat) := by
  have := Int.gcd_pos_of_ne_zero_right t h
  omega
/-- the divisor with the bottom's sign -/
def dvs (t b : Int) : Int := if b < 0 then -((Int.gcd t b : Nat) : Int) else ((Int.gcd t b : Nat) : Int)
theorem frac_num {t b : Int} (h : b ≠ 0) : t.fdiv (dvs t b) = (Rat.divInt t b).num := by
  have g0 := gcd_pos (t := t) h
  have gt : ((Int.gcd t b : Nat) : Int) ∣ t := Int.gcd_dvd_left t b
  rw [Rat.num_divInt, Int.gcd_comm b t]
  unfold dvs
  by_cases hb : b < 0
  · rw [if_pos hb, Int.sign_eq_neg_one_of_neg hb, Int.fdiv_neg (by omega), if_pos gt, Int.fdiv_eq_ediv_of_dvd gt]
    rw [Int.neg_mul, Int.one_mul, Int.neg_ediv_of_dvd gt]
  · rw [if_neg hb, Int.sign_eq_one_of_pos (by omega), Int.one_mul, Int.fdiv_eq_ediv_of_dvd gt]
theorem frac_den {t b : Int} (h : b ≠ 0) : b.fdiv (dvs t b) = ((Rat.divInt t b).den : Int) := by
  have g0 := gcd_pos (t := t) h
  have gb : ((Int.gcd t b : Nat) : Int) ∣ b := Int.gcd_dvd_right t b
  rw [Rat.den_divInt, if_neg h, Int.gcd_comm b t, Int.natCast_ediv]
  unfold dvs
  by_cases hb : b < 0
  · rw [if_pos hb, Int.fdiv_neg (by omega), if_pos gb, Int.fdiv_eq_ediv_of_dvd gb]
    rw [show ((b.natAbs : Nat) : Int) = -b by omega, Int.neg_ediv_of_dvd gb]
  · rw [if_neg hb, Int.fdiv_eq_ediv_of_dvd gb]
    rw [show ((b.natAbs : Nat) : Int) = b by omega]
theorem dvs_ne {t b : Int} (h : b ≠ 0) : dvs t b ≠ 0 := by
  have g0 := gcd_pos (t := t) h
  unfold dvs
  split <;> omega
theorem dvs_sm {t b : Int} {n : Nat} (h : b ≠ 0) (s : Sm n b) : Sm n (dvs t b) := by
  refine s.le ?_
  have hd : Int.gcd t b ∣ b.natAbs := Int.gcd_dvd_natAbs_right t b
  have hl := Nat.le_of_dvd (by omega) hd
  unfold dvs
  split <;> omega
theorem num_sm {t b : Int} {n : Nat} (h : b ≠ 0) (s : Sm n t) : Sm n (Rat.divInt t b).num := by
  refine s.le ?_
  have g0 : 0 < Int.gcd t b := Int.gcd_pos_of_ne_zero_right t h
  have gt : ((Int.gcd t b : Nat) : Int) ∣ t := Int.gcd_dvd_left t b
  rw [← frac_num h]
  have e : t.fdiv (dvs t b) * dvs t b = t := by
    rw [Int.mul_comm]
    refine Int.mul_fdiv_cancel_of_dvd ?_
    unfold dvs
    split
    · exact Int.neg_dvd.mpr gt
    · exact gt
  have e2 : t.natAbs = (t.fdiv (dvs t b)).natAbs * (dvs t b).natAbs := by
    rw [← Int.natAbs_mul, e]
  rw [e2]
  have : 0 < (dvs t b).natAbs := by
    have := dvs_ne (t := t) h
    omega
  exact Nat.le_mul_of_pos_right _ this
theorem den_sm {t b : Int} {n : Nat} (h : b ≠ 0) (s : Sm n b) : Sm n ((Rat.divInt t b).den : Int) := by
  refine s.le ?_
  rw [Rat.den_divInt, if_neg h]
  exact Nat.div_le_self _ _
/-- a fraction as it stands in a tuple -/
def pr (q : Rat) : List V := [.int q.num, .int (q.den : Int)]
theorem pr_ints (q : Rat) : pr q = [q.num, (q.den : Int)].map V.int := rfl
theorem den_pos (q : Rat) : (0 : Int) < (q.den : Int) := by
  have := q.den_nz
  omega
theorem num_gcd (q : Rat) : Int.gcd q.num (q.den : Int) = 1 := by
  have := q.reduced
  show Nat.gcd _ _ = 1
  simpa using this
theorem rat_inj {p q : Rat} : ([p.num, (p.den : Int)] = [q.num, (q.den : Int)]) ↔ p = q := by
  constructor
  · intro h
    simp only [List.cons.injEq, and_true] at h
    obtain ⟨h1, h2⟩ := h
    exact Rat.ext h1 (by omega)
  · rintro rfl
    rfl
theorem divInt_self (q : Rat) : Rat.divInt q.num (q.den : Int) = q := Rat.num_divInt_den q
theorem divInt_cross {t b : Int} (h : b ≠ 0) : (Rat.divInt t b).num * b = t * ((Rat.divInt t b).den : Int) := by
  have e : Rat.divInt (Rat.divInt t b).num ((Rat.divInt t b).den : Int) = Rat.divInt t b := divInt_self _
  exact (Rat.divInt_eq_divInt_iff (by have := den_pos (Rat.divInt t b); omega) h).mp e
theorem log_small {n : Int} (h0 : 0 ≤ n) (h1 : n < 1000) : n.natAbs.log2 < 1920 := by
  have h : n.natAbs < 2 ^ 10 := by omega
  exact Nat.lt_of_lt_of_le (PySem.Flt.log2_lt_of (by decide) h) (by decide)
/-! ### lists of whole numbers as data -/
theorem dpInts {K : PySem.W.Frag} {H : Hp} : ∀ ns : List Int, DpAll K H (ns.map V.int) (ns.map PyData.int)
  | [] => .nil
  | n :: ns => .cons (.int n) (dpInts ns)
theorem layInts : ∀ ns : List Int, PyData.canLayAll0 (ns.map PyData.int) = true
  | [] => rfl
  | n :: ns => by simp [PyData.canLayAll0, PyData.canLay0, layInts ns]
theorem depInts : ∀ ns : List Int, PyData.depthAll (ns.map PyData.int) = 0
  | [] => rfl
  | n :: ns => by simp [PyData.depthAll, PyData.depth, depInts ns]
theorem shapedL (ns : List Int) : SeqAt.shaped (.list (ns.map PyData.int)) = true := by
  show (PyData.canLayAll0 (ns.map PyData.int) && decide (PyData.depthAll (ns.map PyData.int) + 1 ≤ 64)) = true
  rw [layInts, depInts]; rfl
theorem shapedT (ns : List Int) : SeqAt.shaped (.tuple (ns.map PyData.int)) = true := by
  show (PyData.canLayAll0 (ns.map PyData.int) && decide (PyData.depthAll (ns.map PyData.int) + 1 ≤ 64)) = true
  rw [layInts, depInts]; rfl
theorem neqInts {K : PySem.W.Frag} {H : Hp} {Q : VK} {p q : Addr} {ns ms : List Int} (h1 : SqL K H p (ns.map V.int)) (h2 : SqL K H q (ms.map V.int)) (k : Q (.bl (!decide (ns = ms))) H) : rNeD K (.ref p) (.ref q) H Q := by
  refine ⟨_, _, .lst h1 (dpInts ns), .lst h2 (dpInts ms), shapedL ns, shapedL ms, ?_⟩
  have e : PyData.eqv (.list (ns.map PyData.int)) (.list (ms.map PyData.int)) = decide (ns = ms) := by
    rw [PyData.eqv]; exact PySem.W.ked_eqvAll ns ms
  rw [e]; exact k
theorem eqInts {K : PySem.W.Frag} {H : Hp} {Q : VK} {p q : Addr} {ns ms : List Int} (h1 : SqL K H p (ns.map V.int)) (h2 : SqL K H q (ms.map V.int)) (k : Q (.bl (decide (ns = ms))) H) : rEqD K (.ref p) (.ref q) H Q := by
  refine ⟨_, _, .lst h1 (dpInts ns), .lst h2 (dpInts ms), shapedL ns, shapedL ms, ?_⟩
  have e : PyData.eqv (.list (ns.map PyData.int)) (.list (ms.map PyData.int)) = decide (ns = ms) := by
    rw [PyData.eqv]; exact PySem.W.ked_eqvAll ns ms
  rw [e]; exact k
theorem neqIntsT {K : PySem.W.Frag} {H : Hp} {Q : VK} {p q : Addr} {ns ms : List Int} (h1 : SqT K H p (ns.map V.int)) (h2 : SqT K H q (ms.map V.int)) (k : Q (.bl (!decide (ns = ms))) H) : rNeD K (.ref p) (.ref q) H Q := by
  refine ⟨_, _, .tup h1 (dpInts ns), .tup h2 (dpInts ms), shapedT ns, shapedT ms, ?_⟩
  have e : PyData.eqv (.tuple (ns.map PyData.int)) (.tuple (ms.map PyData.int)) = decide (ns = ms) := by
    rw [PyData.eqv]; exact PySem.W.ked_eqvAll ns ms
  rw [e]; exact k
theorem eqIntsT {K : PySem.W.Frag} {H : Hp} {Q : VK} {p q : Addr} {ns ms : List Int} (h1 : SqT K H p (ns.map V.int)) (h2 : SqT K H q (ms.map V.int)) (k : Q (.bl (decide (ns = ms))) H) : rEqD K (.ref p) (.ref q) H Q := by
  refine ⟨_, _, .tup h1 (dpInts ns), .tup h2 (dpInts ms), shapedT ns, shapedT ms, ?_⟩
  have e : PyData.eqv (.tuple (ns.map PyData.int)) (.tuple (ms.map PyData.int)) = decide (ns = ms) := by
    rw [PyData.eqv]; exact PySem.W.ked_eqvAll ns ms
  rw [e]; exact k
/-! ### slices -/
theorem cutV_mem {xs : List V} {lo hi : Option Int} {v : V} (h : v ∈ cutV xs lo hi) : v ∈ xs := List.mem_of_mem_drop (List.mem_of_mem_take h)
theorem cutV_lo {xs : List V} {n : Int} (h0 : 0 ≤ n) (h1 : n ≤ xs.length) : cutV xs (some n) none = xs.drop n.toNat := by
  have e : HT.sIx xs.length 0 (some n) = n.toNat := by
    have q : n = ((n.toNat : Nat) : Int) := by omega
    rw [q, HT.sIx_nat]
    omega
  unfold cutV
  rw [e, HT.sIx_none]
  exact List.take_of_length_le (by rw [List.length_drop]; exact Nat.le_refl _)
theorem cutV_hi {xs : List V} {n : Int} (h0 : 0 ≤ n) (h1 : n ≤ xs.length) : cutV xs none (some n) = xs.take n.toNat := by
  have e : HT.sIx xs.length xs.length (some n) = n.toNat := by
    have q : n = ((n.toNat : Nat) : Int) := by omega
    rw [q, HT.sIx_nat]
    omega
  unfold cutV
  rw [e, HT.sIx_none]
  rfl
/-! ### what a thing is, as far as it matters: a whole number or of one of the other kinds -/
def others : List String := ["bool", "NoneType", "str", "tuple", "list", "dict"]
inductive Thing (K : PySem.W.Frag) (H : Hp) : V → Prop where
  | int (i : Int) : Thing K H (.int i)
  | odd {v : V} {t : String} (ty : TyX K H v (.type t)) (m : t ∈ others) (n : isI v = false) : Thing K H v
def spNumber (K : PySem.W.Frag) : Sp := fun vs H Q _ => ∃ v, vs = [v] ∧ Thing K H v ∧ Q (.bl (isI v)) H
/-! ### what a thing is stays so -/
theorem TyX.keep {K : PySem.W.Frag} {H H' : Hp} {v : V} {t : Value} (f : ∀ b o, v = .ref b → H b = some o → H' b = some o) (h : TyX K H v t) : TyX K H' v t := by
  cases h with
  | base b =>
    refine .base ?_
    cases b with
    | non => exact .non
    | bl x => exact .bl x
    | int i => exact .int i
    | str x => exact .str x
    | flt x => exact .flt x
    | lst e => exact .lst (f _ _ rfl e)
    | frz e => exact .frz (f _ _ rfl e)
    | tup e => exact .tup (f _ _ rfl e)
    | dK e => exact .dK (f _ _ rfl e)
    | dT e => exact .dT (f _ _ rfl e)
    | ins e a b c d g => exact .ins (f _ _ rfl e) a b c d g
  | byt b => exact .byt b
  | set e => exact .set (f _ _ rfl e)
  | kList e c => exact .kList e c
  | kTuple e c => exact .kTuple e c
  | kDict e c => exact .kDict e c
  | fTuple e => exact .fTuple (f _ _ rfl e)
  | fDict e => exact .fDict (f _ _ rfl e)
theorem Thing.keep {K : PySem.W.Frag} {H H' : Hp} {v : V} (f : ∀ b o, v = .ref b → H b = some o → H' b = some o) (h : Thing K H v) : Thing K H' v := by
  cases h with
  | int i => exact .int i
  | odd ty m n => exact .odd (TyX.keep f ty) m n
/-! ### the drawn figures -/
def IsSt (xs : List V) : Prop := (∃ x, xs = [.int x]) ∨ ∃ x y z, xs = [.int x, .int y, .int z]
def spDigit : Sp := fun vs H Q _ => ∃ (p : Addr) (xs : List V) (b : Int), vs = [.ref p, .int b] ∧ H p = some (.lst xs) ∧ IsSt xs ∧ 0 < b ∧ b < 1073741824 ∧
  ∀ H' d xs', Frm p H H' → H' p = some (.lst xs') → IsSt xs' → 0 ≤ d → d < b → Q (.int d) H'
def spGcd : Sp := fun vs H Q _ => ∃ a b : Int, vs = [.int a, .int b] ∧ 0 ≤ a ∧ 0 ≤ b ∧ Q (.int ((Int.gcd a b : Nat) : Int)) H
def spFraction (K : PySem.W.Frag) (C : Addr) : Sp := fun vs H Q E => ∃ v1 v2, vs = [v1, v2] ∧ Thing K H v1 ∧ Thing K H v2 ∧
  ((∃ t b : Int, v1 = .int t ∧ v2 = .int b ∧ b ≠ 0 ∧ Sm 8000 b ∧ ∀ p, H p = none → Q (.ref p) (upd H p (.tup (pr (Rat.divInt t b))))) ∨
   ((isI v1 = false ∨ isI v2 = false ∨ v2 = .int 0) ∧ E (.ref C) none H))
local macro_rules | `(tactic| walk_at "sm") => `(tactic| first
  | assumption
  | exact (show Sm 64 _ by unfold Sm; decide)
  | (refine' Sm.mul ?m1 ?m2; (case m1 => walk_at "sm"); (case m2 => walk_at "sm"))
  | (refine' Sm.add ?m1 ?m2; (case m1 => walk_at "sm"); (case m2 => walk_at "sm"))
  | (refine' Sm.sub ?m1 ?m2; (case m1 => walk_at "sm"); (case m2 => walk_at "sm"))
  | (refine' Sm.neg ?m1; (case m1 => walk_at "sm"))
  | fail)
local macro_rules | `(tactic| walk_at "ne") => `(tactic| first
  | assumption
  | exact Ne.symm (by assumption)
  | (refine' new_ne ?n1 ?n2; (case n1 => assumption); (case n2 => walk_at "hp"))
  | (refine' Ne.symm (new_ne ?n1 ?n2); (case n1 => assumption); (case n2 => walk_at "hp"))
  | fail)
local macro_rules | `(tactic| walk_at "hp") => `(tactic| first
  | assumption
  | exact upd_same
  | (refine' upd_old ?na ?ho; (case na => assumption); (case ho => walk_at "hp"))
  | (refine' upd_old2 ?na ?ho; (case na => assumption); (case ho => walk_at "hp"))
  | (refine' upd_oth ?na ?ho; (case na => walk_at "ne"); (case ho => walk_at "hp"))
  | (refine' Same.get ?na ?ho; (case na => assumption); (case ho => walk_at "hp"))
  | (refine' Frm.get ?na ?nb ?ho; (case na => assumption); (case nb => walk_at "ne"); (case ho => walk_at "hp"))
  | fail)
local macro_rules | `(tactic| walk_at "fr") => `(tactic| first
  | assumption
  | exact Frm.refl
  | exact Same.refl _
  | (refine' Frm.upd2 ?f; (case f => walk_at "fr"))
  | (refine' Frm.new ?f ?n; (case n => assumption); (case f => walk_at "fr"))
  | (refine' Frm.new2 ?f ?n; (case n => assumption); (case f => walk_at "fr"))
  | (refine' Frm.own ?f ?n; (case n => assumption); (case f => walk_at "fr"))
  | (refine' Frm.trans ?f ?g; (case g => first | assumption | exact Same.frm (by assumption)); (case f => walk_at "fr"))
  | (refine' Same.new ?f ?n; (case n => assumption); (case f => walk_at "fr"))
  | (refine' Same.new2 ?f ?n; (case n => assumption); (case f => walk_at "fr"))
  | (refine' Same.own ?f ?n; (case n => assumption); (case f => walk_at "fr"))
  | (refine' Same.trans ?f ?g; (case g => assumption); (case f => walk_at "fr"))
  | (refine' Same.byFrm ?f ?g ?n; (case g => assumption); (case n => assumption); (case f => walk_at "fr"))
  | fail)
/-- one step of a reading, where its form alone tells it -/
local macro_rules | `(tactic| walk_at "g") => `(tactic| first
  | refine ⟨_, rfl, ?_⟩
  | refine ⟨_, _, rfl, rfl, ?_⟩
  | refine ⟨rfl, ?_⟩
  | refine ⟨sz rfl, fun _ _ => ?_⟩
  | refine ⟨.inl ⟨rfl, _, SqL.of (by walk_at "hp")⟩, ?_⟩
  | refine ⟨_, _, rfl, .inl (SqL.of (by walk_at "hp")), ?_⟩
  | refine ⟨_, _, rfl, .inr (SqT.of (by walk_at "hp")), ?_⟩
  | refine ⟨_, _, rfl, SqL.of (by walk_at "hp"), fun _ _ => ?_⟩
  | refine ⟨_, _, _, _, rfl, rfl, SqL.of (by walk_at "hp"), rfl, ?_⟩
  | refine ⟨_, _, _, _, rfl, rfl, SqT.of (by walk_at "hp"), rfl, ?_⟩
  | refine ⟨(show (0 : Int) < _ by first | decide | assumption), ?_⟩
  | refine ⟨⟨(show (0 : Int) < _ by first | decide | assumption), by first | decide | assumption⟩, ?_⟩
  | refine ⟨⟨(show (0 : Int) ≤ _ by decide), by decide, by decide⟩, ?_⟩
  | refine ⟨_, _, _, _, rfl, rfl, by walk_at "hp", by walk_at "hp", sz rfl, ?_⟩
  | refine ⟨_, _, _, _, rfl, rfl, by walk_at "hp", rfl, ?_⟩
  | refine ⟨(show CMul _ _ by first | exact .inl ⟨by decide, by decide⟩ | exact .inr ⟨by decide, by decide⟩ | exact .inl ⟨by omega, by omega⟩ | exact .inr ⟨by omega, by omega⟩), ?_⟩
  | refine ⟨(show CMulW _ _ from Sm.mulok (by walk_at "sm") (by walk_at "sm") (by decide) (by decide)), ?_⟩
  | refine ⟨(show CDivZ _ _ from ⟨by first | assumption | omega, Sm.mono (by walk_at "sm") (by decide)⟩), ?_⟩
  | fail)
/-- a drawn figure: a call of digit -/
local macro_rules | `(tactic| walk_at "dg") => `(tactic| (refine ⟨_, _, _, rfl, by walk_at "hp", by assumption, by first | decide | omega, by first | decide | omega, fun _ _ _ _ _ _ _ _ => ?_⟩))
/-- a list's item at a drawn place -/
local macro_rules | `(tactic| walk_at "ixI") => `(tactic| (refine' ixI (SqL.of ?h) ?h0 ?h1 ?al (fun _ _ => ?k); (case h => walk_at "hp"); (case al => rfl); (case h0 => first | assumption | omega); (case h1 => first | assumption | (simp only [List.length]; omega))))
def spCell (K : PySem.W.Frag) : Sp := fun vs H Q _ => ∃ (a : Addr) (ns : List Int) (k : Int), vs = [.ref a, .int k] ∧ SqL K H a (ns.map V.int) ∧ 0 ≤ k ∧ ∀ n, (n ∈ ns ∨ n = 0) → Q (.int n) H
def spGcd2 : Sp := fun vs H Q _ => ∃ a b : Int, vs = [.int a, .int b] ∧ Q (.int ((Int.gcd a b : Nat) : Int)) H
/-- what two fractions come to, as a new tuple -/
def spBin (f : Rat → Rat → Rat) : Sp := fun vs H Q _ => ∃ (p r : Addr) (a b : Rat), vs = [.ref p, .ref r] ∧ H p = some (.tup (pr a)) ∧ H r = some (.tup (pr b)) ∧ Sm 1900 a.num ∧ Sm 1900 (a.den : Int) ∧ Sm 1900 b.num ∧ Sm 1900 (b.den : Int) ∧ ∀ n, H n = none → Q (.ref n) (upd H n (.tup (pr (f a b))))
def spShared (C : Addr) : Sp := fun vs H Q E => ∃ (p r : Addr) (a b : Rat), vs = [.ref p, .ref r] ∧ H p = some (.tup (pr a)) ∧ H r = some (.tup (pr b)) ∧ Sm 1900 a.num ∧ Sm 1900 (a.den : Int) ∧ Sm 1900 b.num ∧ Sm 1900 (b.den : Int) ∧
  ((b.num ≠ 0 ∧ ∀ H' n, Same H H' → H' n = some (.tup (pr (a / b))) → Q (.ref n) H') ∨ (b.num = 0 ∧ E (.ref C) none H))
def spLow : Sp := fun vs H Q _ => ∃ t b : Int, vs = [.int t, .int b] ∧ b ≠ 0 ∧ Sm 8000 b ∧ ∀ n, H n = none → Q (.ref n) (upd H n (.tup (pr (Rat.divInt t b))))
theorem den_ne (a : Rat) : (a.den : Int) ≠ 0 := by
  have := den_pos a
  omega
theorem add_is (a b : Rat) : Rat.divInt (a.num * (b.den : Int) + b.num * (a.den : Int)) ((a.den : Int) * (b.den : Int)) = a + b := by
  rw [← Rat.divInt_add_divInt _ _ (den_ne a) (den_ne b), divInt_self, divInt_self]
theorem sub_is (a b : Rat) : Rat.divInt (a.num * (b.den : Int) - b.num * (a.den : Int)) ((a.den : Int) * (b.den : Int)) = a - b := by
  rw [← Rat.divInt_sub_divInt _ _ (den_ne a) (den_ne b), divInt_self, divInt_self]
theorem mul_is (a b : Rat) : Rat.divInt (a.num * b.num) ((a.den : Int) * (b.den : Int)) = a * b := by
  rw [← Rat.divInt_mul_divInt, divInt_self, divInt_self]
theorem div_is (a b : Rat) (h : b.num ≠ 0) : Rat.divInt (a.num * (b.den : Int)) ((a.den : Int) * b.num) = a / b := by
  have hb : b ≠ 0 := fun z => h (by rw [z]; rfl)
  have e : Rat.divInt (a.num * (b.den : Int)) ((a.den : Int) * b.num) = a * Rat.divInt (b.den : Int) b.num := by
    rw [← Rat.divInt_mul_divInt, divInt_self]
  have e2 : b * Rat.divInt (b.den : Int) b.num = 1 := by
    have := Rat.divInt_mul_divInt b.num (b.den : Int) (d₁ := (b.den : Int)) (d₂ := b.num)
    rw [divInt_self] at this
    rw [this, Int.mul_comm (b.den : Int) b.num]
    exact Rat.divInt_self' (Int.mul_ne_zero h (den_ne b))
  rw [e]
  grind
theorem mul_ne {a b : Int} (h : a ≠ 0) (k : b ≠ 0) : a * b ≠ 0 := Int.mul_ne_zero h k
/-! ### sums and products shortened crosswise -/
theorem mul_num (a b : Rat) : a.num.fdiv ((a.num.natAbs.gcd b.den : Nat) : Int) * b.num.fdiv ((b.num.natAbs.gcd a.den : Nat) : Int) = (a * b).num := by
  have e : (a * b).num = a.num / ((a.num.natAbs.gcd b.den : Nat) : Int) * (b.num / ((b.num.natAbs.gcd a.den : Nat) : Int)) := by
    show (Rat.mul a b).num = _
    unfold Rat.mul
    simp only [Int.divExact_eq_ediv]
  rw [e, Int.fdiv_eq_ediv_of_nonneg _ (Int.natCast_nonneg _), Int.fdiv_eq_ediv_of_nonneg _ (Int.natCast_nonneg _)]
theorem mul_den (a b : Rat) : (a.den : Int).fdiv ((b.num.natAbs.gcd a.den : Nat) : Int) * (b.den : Int).fdiv ((a.num.natAbs.gcd b.den : Nat) : Int) = ((a * b).den : Int) := by
  have e : (a * b).den = a.den / (b.num.natAbs.gcd a.den) * (b.den / (a.num.natAbs.gcd b.den)) := by
    show (Rat.mul a b).den = _
    unfold Rat.mul
    simp only [Nat.divExact_eq_div]
  rw [e, Int.fdiv_eq_ediv_of_nonneg _ (Int.natCast_nonneg _), Int.fdiv_eq_ediv_of_nonneg _ (Int.natCast_nonneg _)]
  rw [Int.natCast_mul, Int.natCast_ediv, Int.natCast_ediv]
/-- the sum's top before it is shortened -/
def sumTop (a c : Rat) : Int := a.num * ((c.den / a.den.gcd c.den : Nat) : Int) + c.num * ((a.den / a.den.gcd c.den : Nat) : Int)
def sumRest (a c : Rat) : Nat := (sumTop a c).natAbs.gcd (a.den.gcd c.den)
theorem sum_facts (a c : Rat) : (sumTop a c).fdiv (sumRest a c : Int) = (a + c).num ∧ ((c.den / a.den.gcd c.den : Nat) : Int) * ((a.den / sumRest a c : Nat) : Int) = ((a + c).den : Int) := by
  have d0 : 0 < a.den.gcd c.den := Nat.gcd_pos_of_pos_left _ a.den_pos
  have aux := Rat.add.aux a c (g := a.den.gcd c.den) rfl rfl rfl
  obtain ⟨x, hx⟩ := Nat.gcd_dvd_left a.den c.den
  obtain ⟨y, hy⟩ := Nat.gcd_dvd_right a.den c.den
  have ex : a.den / a.den.gcd c.den = x := by conv => lhs; lhs; rw [hx]
                                              exact Nat.mul_div_cancel_left _ d0
  have ey : c.den / a.den.gcd c.den = y := by conv => lhs; lhs; rw [hy]
                                              exact Nat.mul_div_cancel_left _ d0
  have er : sumRest a c = (sumTop a c).natAbs.gcd (x * c.den) := by
    unfold sumRest
    rw [← ex]
    exact aux
  have hz : (x * c.den : Nat) ≠ 0 := by
    have h1 := a.den_pos
    have h2 := c.den_pos
    intro z
    rcases Nat.mul_eq_zero.mp z with z | z
    · rw [z, Nat.mul_zero] at hx; omega
    · omega
  have hv : Rat.divInt (sumTop a c) ((x * c.den : Nat) : Int) = a + c := by
    rw [← add_is a c]
    have d1 : ((a.den.gcd c.den : Nat) : Int) ≠ 0 := by omega
    rw [← Rat.divInt_mul_right d1]
    have hx' : (a.den : Int) = ((a.den.gcd c.den : Nat) : Int) * (x : Int) := by exact_mod_cast hx
    have hy' : (c.den : Int) = ((a.den.gcd c.den : Nat) : Int) * (y : Int) := by exact_mod_cast hy
    have e1 : sumTop a c * ((a.den.gcd c.den : Nat) : Int) = a.num * (c.den : Int) + c.num * (a.den : Int) := by
      unfold sumTop
      rw [ex, ey]
      generalize ((a.den.gcd c.den : Nat) : Int) = g at hx' hy'
      rw [hx', hy']
      grind
    have e2 : ((x * c.den : Nat) : Int) * ((a.den.gcd c.den : Nat) : Int) = (a.den : Int) * (c.den : Int) := by
      rw [Int.natCast_mul]
      generalize ((a.den.gcd c.den : Nat) : Int) = g at hx' hy'
      rw [hx']
      grind
    rw [e1, e2]
  have hzi : ((x * c.den : Nat) : Int) ≠ 0 := by omega
  have ed : dvs (sumTop a c) ((x * c.den : Nat) : Int) = (sumRest a c : Int) := by
    unfold dvs
    rw [if_neg (by omega), er]; rfl
  have n1 := frac_num (t := sumTop a c) hzi
  have n2 := frac_den (t := sumTop a c) hzi
  rw [hv, ed] at n1 n2
  refine ⟨n1, ?_⟩
  rw [← n2, Int.fdiv_eq_ediv_of_nonneg _ (Int.natCast_nonneg _), ← Int.natCast_ediv, ← Int.natCast_mul, ey]
  congr 1
  obtain ⟨z, hz2⟩ : sumRest a c ∣ a.den.gcd c.den := Nat.gcd_dvd_right _ _
  have r0 : 0 < sumRest a c := Nat.gcd_pos_of_pos_right _ d0
  have e3 : a.den / sumRest a c = z * x := by
    conv => lhs; lhs; rw [hx, hz2, Nat.mul_assoc]
    exact Nat.mul_div_cancel_left _ r0
  have e4 : x * c.den / sumRest a c = x * z * y := by
    have : x * c.den = sumRest a c * (x * z * y) := by
      conv => lhs; rw [hy, hz2]
      simp only [Nat.mul_assoc, Nat.mul_comm, Nat.mul_left_comm]
    rw [this]
    exact Nat.mul_div_cancel_left _ r0
  rw [e3, e4]
  simp only [Nat.mul_assoc, Nat.mul_comm, Nat.mul_left_comm]
theorem inv_pos {b : Rat} (h : 0 < b.num) : (b⁻¹).num = (b.den : Int) ∧ ((b⁻¹).den : Int) = b.num := by
  show (Rat.inv b).num = _ ∧ ((Rat.inv b).den : Int) = _
  unfold Rat.inv
  rw [dif_neg (by omega), dif_pos h]
  exact ⟨rfl, by show ((b.num.natAbs : Nat) : Int) = b.num; omega⟩
theorem inv_neg {b : Rat} (h : b.num < 0) : (b⁻¹).num = -(b.den : Int) ∧ ((b⁻¹).den : Int) = -b.num := by
  show (Rat.inv b).num = _ ∧ ((Rat.inv b).den : Int) = _
  unfold Rat.inv
  rw [dif_pos h]
  exact ⟨rfl, by show ((b.num.natAbs : Nat) : Int) = -b.num; omega⟩
theorem fdiv_nat (m n : Nat) : (m : Int).fdiv (n : Int) = ((m / n : Nat) : Int) := by
  rw [Int.fdiv_eq_ediv_of_nonneg _ (Int.natCast_nonneg _), ← Int.natCast_ediv]
theorem gcd_absN (x : Int) (n : Nat) : Int.gcd (if x < 0 then -x else x) (n : Int) = x.natAbs.gcd n := by
  split <;> simp [Int.gcd]
def spSummed : Sp := fun vs H Q _ => ∃ (p : Addr) (a c : Rat), vs = [.ref p, .int c.num, .int (c.den : Int)] ∧ H p = some (.tup (pr a)) ∧ Sm 1900 a.num ∧ Sm 1900 (a.den : Int) ∧ Sm 1900 c.num ∧ Sm 1900 (c.den : Int) ∧ ∀ n, H n = none → Q (.ref n) (upd H n (.tup (pr (a + c))))
theorem Sm.div {n m k : Nat} (h : Sm n (m : Int)) : Sm n ((m / k : Nat) : Int) := h.le (show m / k ≤ m from Nat.div_le_self m k)
theorem Sm.ediv {n k : Nat} {x : Int} (h : Sm n x) : Sm n (x / (k : Int)) := h.le (Int.natAbs_ediv_le_natAbs x k)
theorem Sm.fdiv {n k : Nat} {x : Int} (h : Sm n x) : Sm n (x.fdiv (k : Int)) := by
  rw [Int.fdiv_eq_ediv_of_nonneg _ (Int.natCast_nonneg _)]
  exact Sm.ediv h
section
variable {P : Program} {w : World} {K : PySem.W.Frag} {mg : Str → Option Value} {base : Heap}
theorem ok_l_digit (T : Txt K mg) : FnOk P w K mg base CX0 1 T.a_l_digit T.d_l_digit ["_law_state", "_law_base"] spDigit := by
  refine T.F_l_digit.ok sc_l_digit (fun vs H Q E h => ?_) (fun cdv A outer s H vs Q E hr h => ?_)
  · obtain ⟨p, xs, b, rfl, _⟩ := h
    rfl
  · obtain ⟨p, xs, b, rfl, hp, hx, b0, b1, q⟩ := h
    refine ⟨_, (pss_cons (ps_if (pt_cmpR op_eq (pe_callB call_len_seq (by rfl) T.m_len (by decide +kernel) (pa_cons (pv 0) pa_nil)) pe_int (nomark _)) (pss_one (ps_expr (pe_bm PySem.F.plainAttrs_list PySem.F.slot_list_extend PySem.F.type_list_extend mt_extend (pv 0) (pa_cons (pe_lst (pa_cons (pe_op op_mod (pe_ix ix_list (pv 0) pe_int (fun _ _ => rfl)) pe_int) (pa_cons pe_int pa_nil))) pa_nil)))) pss_nil)
      (pss_cons (ps_if (pt_cmpR op_ge (pe_ix ix_list (pv 0) pe_int (fun _ _ => rfl)) (pv 1) (nomark _)) (pss_cons (ps_set (i := 2) sc_l_digit.nd rfl (Or.inl rfl) (pe_op op_mod (pe_ix ix_list (pv 0) pe_int (fun _ _ => rfl)) (pv 1)))
      (pss_cons (ps_asg (pe_op op_fdiv (pe_ix ix_list (pv 0) pe_int (fun _ _ => rfl)) (pv 1)) (pg_sub (pv 0) pe_int set_list))
      (pss_one (ps_ret (pv 2))))) pss_nil)
      (pss_cons (ps_asg (pe_op op_add (pe_ix ix_list (pv 0) pe_int (fun _ _ => rfl)) pe_int) (pg_sub (pv 0) pe_int set_list))
      (pss_cons (ps_set (i := 3) sc_l_digit.nd rfl (Or.inl rfl) (pe_op op_mod (pe_op op_mul (pe_op op_add (pe_op op_add (pe_ix ix_list (pv 0) pe_int (fun _ _ => rfl)) (pe_op op_mul pe_int (pe_ix ix_list (pv 0) pe_int (fun _ _ => rfl)))) pe_int) pe_int) pe_int))
      (pss_cons (ps_set (i := 3) sc_l_digit.nd rfl (Or.inl rfl) (pe_op op_mod (pe_op op_mul (pv 3) (pe_op op_add (pe_op op_fdiv (pv 3) pe_int) pe_int)) pe_int))
      (pss_one (ps_ret (pe_op op_mod (pe_op op_mod (pe_op op_mul (pv 3) (pe_op op_add (pe_op op_fdiv (pv 3) pe_int) pe_int)) pe_int) (pv 1))))))))), ?_⟩
    rcases hx with ⟨x, rfl⟩ | ⟨x, y, z, rfl⟩
    all_goals
      repeat' walk_at "g"
      refine ite2 (fun c => ?_) (fun c => ?_)
      · repeat' walk_at "g"
        exact q _ _ _ (by walk_at "fr") upd_same (.inr ⟨_, _, _, rfl⟩) (Int.emod_nonneg _ (by omega)) (Int.emod_lt_of_pos _ b0)
      · repeat' walk_at "g"
        exact q _ _ _ (by walk_at "fr") upd_same (.inr ⟨_, _, _, rfl⟩) (Int.emod_nonneg _ (by omega)) (Int.emod_lt_of_pos _ b0)
theorem ok_is_number (T : Txt K mg) : FnOk P w K mg base CX0 1 T.a_is_number T.d_is_number ["thing"] (spNumber K) := by
  refine T.F_is_number.ok sc_is_number (fun vs H Q E h => ?_) (fun cdv A outer s H vs Q E hr h => ?_)
  · obtain ⟨v, rfl, _⟩ := h
    rfl
  · obtain ⟨v, rfl, hv, q⟩ := h
    refine ⟨_, (pss_one (ps_ret (pe_and (pe_callB call_isi (by rfl) T.m_isinstance (by decide +kernel) (pa_cons (pv 0) (pa_cons (pe_bltn (v := .ty "int") (by rfl) T.m_int (by decide +kernel) rfl) pa_nil))) (pe_one (pe_not (pe_callB call_isi (by rfl) T.m_isinstance (by decide +kernel) (pa_cons (pv 0) (pa_cons (pe_bltn (v := .ty "bool") (by rfl) T.m_bool (by decide +kernel) rfl) pa_nil)))))))), ?_⟩
    repeat' walk_at "g"
    cases hv with
    | int i =>
      refine ⟨_, _, _, _, true, rfl, .ty _, .base (.int i), kit_ty (by decide +kernel), _, rfl, ifT rfl ?_⟩
      repeat' walk_at "g"
      exact ⟨_, _, _, _, false, rfl, .ty _, .base (.int i), kit_ty (by decide +kernel), _, rfl, q⟩
    | @odd _ t ty m n =>
      rw [n] at q
      simp only [others, List.mem_cons, List.not_mem_nil, or_false] at m
      rcases m with rfl | rfl | rfl | rfl | rfl | rfl
      · refine ⟨_, _, _, _, true, rfl, .ty _, ty, kit_ty (by decide +kernel), _, rfl, ifT rfl ?_⟩
        repeat' walk_at "g"
        exact ⟨_, _, _, _, true, rfl, .ty _, ty, kit_ty (by decide +kernel), _, rfl, q⟩
      all_goals exact ⟨_, _, _, _, false, rfl, .ty _, ty, kit_ty (by decide +kernel), _, rfl, ifF rfl q⟩
theorem ok_common_divisor (T : Txt K mg) : FnOk P w K mg base CX0 1 T.a_common_divisor T.d_common_divisor ["one", "other"] spGcd := by
  refine T.F_common_divisor.ok sc_common_divisor (fun vs H Q E h => ?_) (fun cdv A outer s H vs Q E hr h => ?_)
  · obtain ⟨a, b, rfl, _⟩ := h
    rfl
  · obtain ⟨a, b, rfl, a0, b0, q⟩ := h
    refine ⟨_, (pss_cons (ps_while PassesOwn.never (pt_cmpR op_gt (pv 1) pe_int (nomark _)) (pss_one (ps_par (i := 0) (j := 1) (by rfl) sc_common_divisor.nd rfl rfl (by decide) rfl rfl (pa_cons (pv 1) (pa_cons (pe_op op_mod (pv 0) (pv 1)) pa_nil)) (by rfl))))
      (pss_one (ps_ret (pv 0)))), ?_⟩
    refine while_by (fun σ H' => ∃ x y : Int, σ = [some (.int x), some (.int y)] ∧ 0 ≤ x ∧ 0 ≤ y ∧ Int.gcd x y = Int.gcd a b ∧ H' = H) (fun σ _ => match σ with | [_, some (.int y)] => y.toNat | _ => 0) ⟨a, b, rfl, a0, b0, rfl, rfl⟩ ?_ ?_
    · rintro σ H' ⟨x, y, rfl, x0, y0, e, rfl⟩
      repeat' walk_at "g"
      refine ifC (fun c => ?_) (fun c => ?_)
      · have c := of_decide_eq_true c
        refine ⟨_, rfl, _, rfl, _, rfl, _, _, rfl, rfl, c, _, _, rfl, ⟨_, _, rfl, y0, Int.emod_nonneg _ (by omega), (gcd_turn x0 c).trans e, rfl⟩, ?_⟩
        show (x % y).toNat < y.toNat
        have := Int.emod_lt_of_pos x c
        have := Int.emod_nonneg x (show y ≠ 0 by omega)
        omega
      · have c := of_decide_eq_false c
        have y1 : y = 0 := by omega
        subst y1
        rw [← e] at q
        refine ⟨_, rfl, ?_⟩
        have e2 : ((Int.gcd x 0 : Nat) : Int) = x := by
          rw [Int.gcd_zero_right]
          omega
        rw [e2] at q
        exact q
    · exact fun σ H Q Q' k ⟨v, e, i, j, e1, e2, b, eb, q⟩ => ⟨v, e, i, j, e1, e2, b, eb, k _ _ q⟩
theorem ok_fraction (T : Txt K mg) : FnOk P w K mg base (L2.CX P w) 2 T.a_fraction T.d_fraction ["top", "bottom"] (spFraction K T.c_NoFraction) := by
  refine T.F_fraction.ok sc_fraction (fun vs H Q E h => ?_) (fun cdv A outer s H vs Q E hr h => ?_)
  · obtain ⟨a, b, rfl, _⟩ := h
    rfl
  · obtain ⟨v1, v2, rfl, t1, t2, h⟩ := h
    refine ⟨_, (pss_cons (ps_if (PW.pt (pw_or (pt_not (pt_val (pe_call (ok_is_number T) (hr.mono (by decide)) (by rfl) T.g_is_number T.F_is_number.kp T.b_is_number .nil pass0 (pa_cons (pv 0) pa_nil)))) (pw_or1 (pt_not (pt_val (pe_call (ok_is_number T) (hr.mono (by decide)) (by rfl) T.g_is_number T.F_is_number.kp T.b_is_number .nil pass0 (pa_cons (pv 1) pa_nil))))))) (pss_one (ps_raise rfl (takes_of rfl rfl rfl rfl) (pmk_own PySem.F.excBase_ValueError T.x_NoFraction T.g_NoFraction T.k_NoFraction (raises_own T.bb_NoFraction T.t_NoFraction) rfl))) pss_nil)
      (pss_cons (ps_if (pt_cmpR op_eq (pv 1) pe_int (nomark _)) (pss_one (ps_raise rfl (takes_of rfl rfl rfl rfl) (pmk_own PySem.F.excBase_ValueError T.x_NoFraction T.g_NoFraction T.k_NoFraction (raises_own T.bb_NoFraction T.t_NoFraction) rfl))) pss_nil)
      (pss_cons (ps_set (i := 2) sc_fraction.nd rfl (Or.inl rfl) (pe_call (ok_common_divisor T) (hr.mono (by decide)) (by rfl) T.g_common_divisor T.F_common_divisor.kp T.b_common_divisor .nil pass0 (pa_cons (pe_callB call_abs (by rfl) T.m_abs (by decide +kernel) (pa_cons (pv 0) pa_nil)) (pa_cons (pe_callB call_abs (by rfl) T.m_abs (by decide +kernel) (pa_cons (pv 1) pa_nil)) pa_nil))))
      (pss_cons (ps_if (pt_cmpR op_lt (pv 1) pe_int (nomark _)) (pss_one (ps_set (i := 2) sc_fraction.nd rfl (Or.inl rfl) (pe_un un_neg (pv 2)))) pss_nil)
      (pss_one (ps_ret (pe_tup (pa_cons (pe_op op_fdivZ (pv 0) (pv 2)) (pa_cons (pe_op op_fdivZ (pv 1) (pv 2)) pa_nil))))))))), ?_⟩
    refine ⟨_, rfl, _, rfl, t1, _, rfl, ?_⟩
    rcases h with ⟨t, b, rfl, rfl, hb, sb, q⟩ | ⟨h, q⟩
    · repeat' walk_at "g"
      refine ⟨t2, ?_⟩
      repeat' walk_at "g"
      refine ifF (decide_eq_false fun z => hb (V.int.inj z)) ?_
      repeat' walk_at "g"
      refine ⟨_, _, rfl, by split <;> omega, by split <;> omega, ?_⟩
      rw [gcd_abs]
      have hq : ∀ p, H p = none → Q (.ref p) (upd H p (.tup [.int (t.fdiv (dvs t b)), .int (b.fdiv (dvs t b))])) := fun p hp => by
        rw [frac_num hb, frac_den hb]
        exact q p hp
      have hd : CDivZ t (dvs t b) := ⟨dvs_ne hb, dvs_sm hb sb⟩
      have hd2 : CDivZ b (dvs t b) := ⟨dvs_ne hb, dvs_sm hb sb⟩
      unfold dvs at hq hd hd2
      repeat' walk_at "g"
      refine ifC (fun c => ?_) (fun c => ?_)
      · have c := of_decide_eq_true c
        rw [if_pos c] at hq hd hd2
        repeat' walk_at "g"
        refine ⟨hd, ?_⟩
        repeat' walk_at "g"
        refine ⟨hd2, ?_⟩
        exact ⟨sz rfl, hq⟩
      · have c := of_decide_eq_false c
        rw [if_neg c] at hq hd hd2
        repeat' walk_at "g"
        refine ⟨hd, ?_⟩
        repeat' walk_at "g"
        refine ⟨hd2, ?_⟩
        exact ⟨sz rfl, hq⟩
    · by_cases h1 : isI v1 = true
      · refine ifF (by rw [h1]; rfl) ?_
        refine ⟨_, rfl, _, rfl, t2, _, rfl, ?_⟩
        by_cases h2 : isI v2 = true
        · refine ifF (by rw [h2]; rfl) ?_
          rcases h with h | h | rfl
          · rw [h1] at h; cases h
          · rw [h2] at h; cases h
          · repeat' walk_at "g"
            exact q
        · have h2 : isI v2 = false := by simpa using h2
          refine ifT (by rw [h2]; rfl) ?_
          exact q
      · have h1 : isI v1 = false := by simpa using h1
        refine ifT (by rw [h1]; rfl) ?_
        exact q
theorem ok_l_cell_at (T : Txt K mg) : FnOk P w K mg base CX0 1 T.a_l_cell_at T.d_l_cell_at ["_law_script", "_law_k"] (spCell K) := by
  refine T.F_l_cell_at.ok sc_l_cell_at (fun vs H Q E h => ?_) (fun cdv A outer s H vs Q E hr h => ?_)
  · obtain ⟨a, ns, k, rfl, _⟩ := h
    rfl
  · obtain ⟨a, ns, k, rfl, hS, h0, q⟩ := h
    refine ⟨_, (pss_cons (ps_if (pt_cmpR op_lt (pv 1) (pe_callB call_len_seq (by rfl) T.m_len (by decide +kernel) (pa_cons (pv 0) pa_nil)) (nomark _)) (pss_one (ps_ret (pe_ix ix_list (pv 0) (pv 1) (fun _ _ => rfl)))) pss_nil)
      (pss_one (ps_ret pe_int))), ?_⟩
    refine ⟨_, rfl, _, rfl, _, _, rfl, .inl hS, ?_⟩
    repeat' walk_at "g"
    refine ite2 (fun c => ?_) (fun c => ?_)
    · have c := of_decide_eq_true c
      refine ⟨_, rfl, _, rfl, ?_⟩
      refine ixP (fun v => ∃ i, v = .int i ∧ i ∈ ns) hS h0 c (fun v hv => ?_) (fun v ⟨i, e, m⟩ => ?_)
      · obtain ⟨i, m, e⟩ := List.mem_map.mp hv
        exact ⟨i, e.symm, m⟩
      · subst e
        exact q i (.inl m)
    · exact q 0 (.inr rfl)
theorem ok_summed (T : Txt K mg) : FnOk P w K mg base CX0 2 T.a_summed T.d_summed ["one", "top", "bottom"] spSummed := by
  refine T.F_summed.ok sc_summed (fun vs H Q E h => ?_) (fun cdv A outer s H vs Q E hr h => ?_)
  · obtain ⟨p, a, c, rfl, _⟩ := h
    rfl
  · obtain ⟨p, a, c, rfl, hp, s1, s2, s3, s4, q⟩ := h
    refine ⟨_, (pss_cons (ps_set (i := 3) sc_summed.nd rfl (Or.inl rfl) (pe_call (ok_common_divisor T) (hr.mono (by decide)) (by rfl) T.g_common_divisor T.F_common_divisor.kp T.b_common_divisor .nil pass0 (pa_cons (pe_ix ix_tup (pv 0) pe_int (fun _ _ => rfl)) (pa_cons (pv 2) pa_nil))))
      (pss_cons (ps_set (i := 4) sc_summed.nd rfl (Or.inl rfl) (pe_op op_fdivZ (pv 2) (pv 3)))
      (pss_cons (ps_set (i := 5) sc_summed.nd rfl (Or.inl rfl) (pe_op op_add (pe_op op_mulW (pe_ix ix_tup (pv 0) pe_int (fun _ _ => rfl)) (pv 4)) (pe_op op_mulW (pv 1) (pe_op op_fdivZ (pe_ix ix_tup (pv 0) pe_int (fun _ _ => rfl)) (pv 3)))))
      (pss_cons (ps_set (i := 6) sc_summed.nd rfl (Or.inl rfl) (pe_call (ok_common_divisor T) (hr.mono (by decide)) (by rfl) T.g_common_divisor T.F_common_divisor.kp T.b_common_divisor .nil pass0 (pa_cons (pe_callB call_abs (by rfl) T.m_abs (by decide +kernel) (pa_cons (pv 5) pa_nil)) (pa_cons (pv 3) pa_nil))))
      (pss_one (ps_ret (pe_tup (pa_cons (pe_op op_fdivZ (pv 5) (pv 6)) (pa_cons (pe_op op_mulW (pv 4) (pe_op op_fdivZ (pe_ix ix_tup (pv 0) pe_int (fun _ _ => rfl)) (pv 6))) pa_nil))))))))), ?_⟩
    have hf := sum_facts a c
    have d0 : 0 < a.den.gcd c.den := Nat.gcd_pos_of_pos_left _ a.den_pos
    have dz : ((a.den.gcd c.den : Nat) : Int) ≠ 0 := by omega
    have r0 : 0 < sumRest a c := Nat.gcd_pos_of_pos_right _ d0
    have rz : ((sumRest a c : Nat) : Int) ≠ 0 := by omega
    have dl := Nat.le_of_dvd a.den_pos (Nat.gcd_dvd_left a.den c.den)
    have rl : sumRest a c ≤ a.den.gcd c.den := Nat.le_of_dvd d0 (Nat.gcd_dvd_right _ _)
    have ds : Sm 1900 ((a.den.gcd c.den : Nat) : Int) := s2.le (by omega)
    have rs : Sm 1900 ((sumRest a c : Nat) : Int) := s2.le (by omega)
    repeat' walk_at "g"
    refine ⟨_, _, rfl, by omega, by omega, ?_⟩
    rw [show Int.gcd (a.den : Int) (c.den : Int) = a.den.gcd c.den from rfl]
    repeat' walk_at "g"
    rw [fdiv_nat c.den (a.den.gcd c.den)]
    have ps : Sm 1900 ((c.den / a.den.gcd c.den : Nat) : Int) := s4.div
    have qs : Sm 1900 ((a.den / a.den.gcd c.den : Nat) : Int) := s2.div
    have us : Sm 1900 ((a.den / sumRest a c : Nat) : Int) := s2.div
    repeat' walk_at "g"
    rw [fdiv_nat a.den (a.den.gcd c.den)]
    repeat' walk_at "g"
    refine ⟨_, _, rfl, by split <;> omega, by omega, ?_⟩
    rw [gcd_absN]
    rw [show (Int.natAbs (a.num * ((c.den / a.den.gcd c.den : Nat) : Int) + c.num * ((a.den / a.den.gcd c.den : Nat) : Int))).gcd (a.den.gcd c.den) = sumRest a c from rfl]
    repeat' walk_at "g"
    rw [fdiv_nat a.den (sumRest a c)]
    dsimp only
    rw [fdiv_nat c.den (a.den.gcd c.den)]
    repeat' walk_at "g"
    rw [hf.2]
    rw [show (a.num * ((c.den / a.den.gcd c.den : Nat) : Int) + c.num * ((a.den / a.den.gcd c.den : Nat) : Int)).fdiv (sumRest a c : Int) = (a + c).num from hf.1]
    exact q _ (by assumption)
theorem ok_plus (T : Txt K mg) : FnOk P w K mg base CX0 3 T.a_plus T.d_plus ["one", "other"] (spBin (· + ·)) := by
  refine T.F_plus.ok sc_plus (fun vs H Q E h => ?_) (fun cdv A outer s H vs Q E hr h => ?_)
  · obtain ⟨p, r, a, b, rfl, _⟩ := h
    rfl
  · obtain ⟨p, r, a, b, rfl, hp, hq, s1, s2, s3, s4, q⟩ := h
    refine ⟨_, (pss_one (ps_ret (pe_call (ok_summed T) (hr.mono (by decide)) (by rfl) T.g_summed T.F_summed.kp T.b_summed .nil pass0 (pa_cons (pv 0) (pa_cons (pe_ix ix_tup (pv 1) pe_int (fun _ _ => rfl)) (pa_cons (pe_ix ix_tup (pv 1) pe_int (fun _ _ => rfl)) pa_nil)))))), ?_⟩
    repeat' walk_at "g"
    exact ⟨_, _, _, rfl, hp, s1, s2, s3, s4, q⟩
theorem ok_minus (T : Txt K mg) : FnOk P w K mg base CX0 3 T.a_minus T.d_minus ["one", "other"] (spBin (· - ·)) := by
  refine T.F_minus.ok sc_minus (fun vs H Q E h => ?_) (fun cdv A outer s H vs Q E hr h => ?_)
  · obtain ⟨p, r, a, b, rfl, _⟩ := h
    rfl
  · obtain ⟨p, r, a, b, rfl, hp, hq, s1, s2, s3, s4, q⟩ := h
    refine ⟨_, (pss_one (ps_ret (pe_call (ok_summed T) (hr.mono (by decide)) (by rfl) T.g_summed T.F_summed.kp T.b_summed .nil pass0 (pa_cons (pv 0) (pa_cons (pe_un un_neg (pe_ix ix_tup (pv 1) pe_int (fun _ _ => rfl))) (pa_cons (pe_ix ix_tup (pv 1) pe_int (fun _ _ => rfl)) pa_nil)))))), ?_⟩
    repeat' walk_at "g"
    refine ⟨_, a, -b, by rw [Rat.neg_num, Rat.neg_den]; rfl, hp, s1, s2, by rw [Rat.neg_num]; exact s3.neg, by rw [Rat.neg_den]; exact s4, ?_⟩
    rw [← Rat.sub_eq_add_neg]
    exact q
theorem ok_times (T : Txt K mg) : FnOk P w K mg base CX0 2 T.a_times T.d_times ["one", "other"] (spBin (· * ·)) := by
  refine T.F_times.ok sc_times (fun vs H Q E h => ?_) (fun cdv A outer s H vs Q E hr h => ?_)
  · obtain ⟨p, r, a, b, rfl, _⟩ := h
    rfl
  · obtain ⟨p, r, a, b, rfl, hp, hq, s1, s2, s3, s4, q⟩ := h
    refine ⟨_, (pss_cons (ps_set (i := 2) sc_times.nd rfl (Or.inl rfl) (pe_call (ok_common_divisor T) (hr.mono (by decide)) (by rfl) T.g_common_divisor T.F_common_divisor.kp T.b_common_divisor .nil pass0 (pa_cons (pe_callB call_abs (by rfl) T.m_abs (by decide +kernel) (pa_cons (pe_ix ix_tup (pv 0) pe_int (fun _ _ => rfl)) pa_nil)) (pa_cons (pe_ix ix_tup (pv 1) pe_int (fun _ _ => rfl)) pa_nil))))
      (pss_cons (ps_set (i := 3) sc_times.nd rfl (Or.inl rfl) (pe_call (ok_common_divisor T) (hr.mono (by decide)) (by rfl) T.g_common_divisor T.F_common_divisor.kp T.b_common_divisor .nil pass0 (pa_cons (pe_callB call_abs (by rfl) T.m_abs (by decide +kernel) (pa_cons (pe_ix ix_tup (pv 1) pe_int (fun _ _ => rfl)) pa_nil)) (pa_cons (pe_ix ix_tup (pv 0) pe_int (fun _ _ => rfl)) pa_nil))))
      (pss_one (ps_ret (pe_tup (pa_cons (pe_op op_mulW (pe_op op_fdivZ (pe_ix ix_tup (pv 0) pe_int (fun _ _ => rfl)) (pv 2)) (pe_op op_fdivZ (pe_ix ix_tup (pv 1) pe_int (fun _ _ => rfl)) (pv 3))) (pa_cons (pe_op op_mulW (pe_op op_fdivZ (pe_ix ix_tup (pv 0) pe_int (fun _ _ => rfl)) (pv 3)) (pe_op op_fdivZ (pe_ix ix_tup (pv 1) pe_int (fun _ _ => rfl)) (pv 2))) pa_nil))))))), ?_⟩
    have l0 : 0 < a.num.natAbs.gcd b.den := Nat.gcd_pos_of_pos_right _ b.den_pos
    have r0 : 0 < b.num.natAbs.gcd a.den := Nat.gcd_pos_of_pos_right _ a.den_pos
    have lz : ((a.num.natAbs.gcd b.den : Nat) : Int) ≠ 0 := by omega
    have rz : ((b.num.natAbs.gcd a.den : Nat) : Int) ≠ 0 := by omega
    have ll := Nat.le_of_dvd b.den_pos (Nat.gcd_dvd_right a.num.natAbs b.den)
    have rl := Nat.le_of_dvd a.den_pos (Nat.gcd_dvd_right b.num.natAbs a.den)
    have ls : Sm 1900 ((a.num.natAbs.gcd b.den : Nat) : Int) := s4.le (by omega)
    have rs : Sm 1900 ((b.num.natAbs.gcd a.den : Nat) : Int) := s2.le (by omega)
    have t1 : Sm 1900 (a.num.fdiv ((a.num.natAbs.gcd b.den : Nat) : Int)) := s1.fdiv
    have t2 : Sm 1900 (b.num.fdiv ((b.num.natAbs.gcd a.den : Nat) : Int)) := s3.fdiv
    have t3 : Sm 1900 ((a.den : Int).fdiv ((b.num.natAbs.gcd a.den : Nat) : Int)) := s2.fdiv
    have t4 : Sm 1900 ((b.den : Int).fdiv ((a.num.natAbs.gcd b.den : Nat) : Int)) := s4.fdiv
    repeat' walk_at "g"
    refine ⟨_, _, rfl, by split <;> omega, by omega, ?_⟩
    rw [gcd_absN]
    repeat' walk_at "g"
    refine ⟨_, _, rfl, by split <;> omega, by omega, ?_⟩
    rw [gcd_absN]
    repeat' walk_at "g"
    dsimp only
    rw [mul_num, mul_den]
    exact q _ (by assumption)
theorem ok_shared (T : Txt K mg) : FnOk P w K mg base (L2.CX P w) 3 T.a_shared T.d_shared ["one", "other"] (spShared T.c_NoFraction) := by
  refine T.F_shared.okX sc_shared (fun vs H Q E h => ?_) (fun cdv A outer s H vs Q E hr h => ?_)
  · obtain ⟨p, r, a, b, rfl, _⟩ := h
    rfl
  · obtain ⟨p, r, a, b, rfl, hp, hq, s1, s2, s3, s4, q⟩ := h
    refine ⟨_, (pss_cons (ps_asg (pv 1) (pg_tup rfl (pgs_cons (pg_name (i := 2) sc_shared.nd rfl (Or.inl rfl)) (pgs_cons (pg_name (i := 3) sc_shared.nd rfl (Or.inl rfl)) pgs_nil))))
      (pss_cons (ps_if (pt_cmpR op_eq (pv 2) pe_int (nomark _)) (pss_one (ps_raise rfl (takes_of rfl rfl rfl rfl) (pmk_own PySem.F.excBase_ValueError T.x_NoFraction T.g_NoFraction T.k_NoFraction (raises_own T.bb_NoFraction T.t_NoFraction) rfl))) pss_nil)
      (pss_cons (ps_if (pt_cmpR op_lt (pv 2) pe_int (nomark _)) (pss_one (ps_par (i := 2) (j := 3) (by rfl) sc_shared.nd rfl rfl (by decide) rfl rfl (pa_cons (pe_un un_neg (pv 2)) (pa_cons (pe_un un_neg (pv 3)) pa_nil)) (by rfl))) pss_nil)
      (pss_one (ps_ret (pe_call (ok_times T) (hr.mono (by decide)) (by rfl) T.g_times T.F_times.kp T.b_times .nil pass0 (pa_cons (pv 0) (pa_cons (pe_tup (pa_cons (pv 3) (pa_cons (pv 2) pa_nil))) pa_nil)))))))), ?_⟩
    repeat' walk_at "g"
    refine ⟨_, _, rfl, SqT.of hq, rfl, _, _, rfl, _, _, rfl, rfl, ?_⟩
    rcases q with ⟨hb, q⟩ | ⟨hb, q⟩
    · repeat' walk_at "g"
      refine ifF (decide_eq_false fun z => hb (V.int.inj z)) ?_
      repeat' walk_at "g"
      refine ifC (fun c => ?_) (fun c => ?_)
      · have c := of_decide_eq_true c
        have iv := inv_neg c
        repeat' walk_at "g"
        refine ⟨_, _, rfl, ?_⟩
        repeat' walk_at "g"
        rename_i n nn
        refine ⟨_, _, a, b⁻¹, rfl, by walk_at "hp", ?_, s1, s2, by rw [iv.1]; exact s4.neg, by rw [iv.2]; exact s3.neg, fun m nm => ?_⟩
        · show upd _ _ _ _ = some (.tup [.int (b⁻¹).num, .int ((b⁻¹).den : Int)])
          rw [upd_same, iv.1, iv.2]
        · exact q _ _ (by walk_at "fr") (by rw [upd_same, Rat.div_def])
      · have c := of_decide_eq_false c
        have iv := inv_pos (b := b) (by omega)
        repeat' walk_at "g"
        rename_i n nn
        refine ⟨_, _, a, b⁻¹, rfl, by walk_at "hp", ?_, s1, s2, by rw [iv.1]; exact s4, by rw [iv.2]; exact s3, fun m nm => ?_⟩
        · show upd _ _ _ _ = some (.tup [.int (b⁻¹).num, .int ((b⁻¹).den : Int)])
          rw [upd_same, iv.1, iv.2]
        · exact q _ _ (by walk_at "fr") (by rw [upd_same, Rat.div_def])
    · repeat' walk_at "g"
      refine ifT (decide_eq_true (by rw [hb])) ?_
      exact q
theorem ok_l_shared (T : Txt K mg) : FnOk P w K mg base CX0 1 T.a_l_shared T.d_l_shared ["_law_left", "_law_right"] spGcd2 := by
  refine T.F_l_shared.ok sc_l_shared (fun vs H Q E h => ?_) (fun cdv A outer s H vs Q E hr h => ?_)
  · obtain ⟨a, b, rfl, _⟩ := h
    rfl
  · obtain ⟨a, b, rfl, q⟩ := h
    refine ⟨_, (pss_cons (ps_set (i := 0) sc_l_shared.nd rfl (Or.inl rfl) (pe_callB call_abs (by rfl) T.m_abs (by decide +kernel) (pa_cons (pv 0) pa_nil)))
      (pss_cons (ps_set (i := 1) sc_l_shared.nd rfl (Or.inl rfl) (pe_callB call_abs (by rfl) T.m_abs (by decide +kernel) (pa_cons (pv 1) pa_nil)))
      (pss_cons (ps_while PassesOwn.never (pt_cmpR op_gt (pv 1) pe_int (nomark _)) (pss_one (ps_par (i := 0) (j := 1) (by rfl) sc_l_shared.nd rfl rfl (by decide) rfl rfl (pa_cons (pv 1) (pa_cons (pe_op op_mod (pv 0) (pv 1)) pa_nil)) (by rfl))))
      (pss_one (ps_ret (pv 0)))))), ?_⟩
    repeat' walk_at "g"
    rw [← gcd_abs] at q
    have a0 : 0 ≤ (if a < 0 then -a else a) := by split <;> omega
    have b0 : 0 ≤ (if b < 0 then -b else b) := by split <;> omega
    generalize (if a < 0 then -a else a) = a at *
    generalize (if b < 0 then -b else b) = b at *
    refine while_by (fun σ H' => ∃ x y : Int, σ = [some (.int x), some (.int y)] ∧ 0 ≤ x ∧ 0 ≤ y ∧ Int.gcd x y = Int.gcd a b ∧ H' = H) (fun σ _ => match σ with | [_, some (.int y)] => y.toNat | _ => 0) ⟨a, b, rfl, a0, b0, rfl, rfl⟩ ?_ ?_
    · rintro σ H' ⟨x, y, rfl, x0, y0, e, rfl⟩
      repeat' walk_at "g"
      refine ifC (fun c => ?_) (fun c => ?_)
      · have c := of_decide_eq_true c
        refine ⟨_, rfl, _, rfl, _, rfl, _, _, rfl, rfl, c, _, _, rfl, ⟨_, _, rfl, y0, Int.emod_nonneg _ (by omega), (gcd_turn x0 c).trans e, rfl⟩, ?_⟩
        show (x % y).toNat < y.toNat
        have := Int.emod_lt_of_pos x c
        have := Int.emod_nonneg x (show y ≠ 0 by omega)
        omega
      · have c := of_decide_eq_false c
        have y1 : y = 0 := by omega
        subst y1
        rw [← e] at q
        refine ⟨_, rfl, ?_⟩
        have e2 : ((Int.gcd x 0 : Nat) : Int) = x := by
          rw [Int.gcd_zero_right]
          omega
        rw [e2] at q
        exact q
    · exact fun σ H Q Q' k ⟨v, e, i, j, e1, e2, b, eb, q⟩ => ⟨v, e, i, j, e1, e2, b, eb, k _ _ q⟩
theorem ok_l_lowest (T : Txt K mg) : FnOk P w K mg base CX0 2 T.a_l_lowest T.d_l_lowest ["_law_top", "_law_bottom"] spLow := by
  refine T.F_l_lowest.ok sc_l_lowest (fun vs H Q E h => ?_) (fun cdv A outer s H vs Q E hr h => ?_)
  · obtain ⟨t, b, rfl, _⟩ := h
    rfl
  · obtain ⟨t, b, rfl, hb, sb, q⟩ := h
    refine ⟨_, (pss_cons (ps_set (i := 2) sc_l_lowest.nd rfl (Or.inl rfl) (pe_call (ok_l_shared T) (hr.mono (by decide)) (by rfl) T.g_l_shared T.F_l_shared.kp T.b_l_shared .nil pass0 (pa_cons (pv 0) (pa_cons (pv 1) pa_nil))))
      (pss_cons (ps_if (pt_cmpR op_lt (pv 1) pe_int (nomark _)) (pss_one (ps_set (i := 2) sc_l_lowest.nd rfl (Or.inl rfl) (pe_op op_sub pe_int (pv 2)))) pss_nil)
      (pss_one (ps_ret (pe_tup (pa_cons (pe_op op_fdivZ (pv 0) (pv 2)) (pa_cons (pe_op op_fdivZ (pv 1) (pv 2)) pa_nil))))))), ?_⟩
    have hq : ∀ p, H p = none → Q (.ref p) (upd H p (.tup [.int (t.fdiv (dvs t b)), .int (b.fdiv (dvs t b))])) := fun p hp => by
      rw [frac_num hb, frac_den hb]
      exact q p hp
    have hd : CDivZ t (dvs t b) := ⟨dvs_ne hb, dvs_sm hb sb⟩
    have hd2 : CDivZ b (dvs t b) := ⟨dvs_ne hb, dvs_sm hb sb⟩
    unfold dvs at hq hd hd2
    refine ⟨_, rfl, _, rfl, _, _, rfl, ?_⟩
    repeat' walk_at "g"
    refine ifC (fun c => ?_) (fun c => ?_)
    · have c := of_decide_eq_true c
      rw [if_pos c] at hq hd hd2
      rw [← Int.zero_sub] at hq hd hd2
      repeat' walk_at "g"
      refine ⟨hd, ?_⟩
      repeat' walk_at "g"
      refine ⟨hd2, ?_⟩
      exact ⟨sz rfl, hq⟩
    · have c := of_decide_eq_false c
      rw [if_neg c] at hq hd hd2
      repeat' walk_at "g"
      refine ⟨hd, ?_⟩
      repeat' walk_at "g"
      refine ⟨hd2, ?_⟩
      exact ⟨sz rfl, hq⟩
end

def spGreat : Sp := fun vs H Q _ => ∃ (p : Addr) (xs : List V), vs = [.ref p, .int 4] ∧ H p = some (.lst xs) ∧ IsSt xs ∧
  ∀ H' n xs', Frm p H H' → H' p = some (.lst xs') → IsSt xs' → 0 ≤ n → n < 2 ^ 80 → Q (.int n) H'
/-- a drawn fraction: a new tuple -/
def spDrawn : Sp := fun vs H Q _ => ∃ (p : Addr) (xs : List V), vs = [.ref p] ∧ H p = some (.lst xs) ∧ IsSt xs ∧
  ∀ H' xs' (r : Addr) (a : Rat), Frm p H H' → H' p = some (.lst xs') → IsSt xs' → H' r = some (.tup (pr a)) → Sm 200 a.num → Sm 200 (a.den : Int) → Q (.ref r) H'
def spSecond : Sp := fun vs H Q _ => ∃ (p l : Addr) (xs : List V) (b : Rat), vs = [.ref p, .ref l] ∧ H p = some (.lst xs) ∧ IsSt xs ∧ H l = some (.tup (pr b)) ∧ Sm 200 b.num ∧ Sm 200 (b.den : Int) ∧
  ∀ H' (r : Addr) (a : Rat), Frm p H H' → H' r = some (.tup (pr a)) → Sm 200 a.num → Sm 200 (a.den : Int) → Q (.ref r) H'
def spAlike : Sp := fun vs H Q _ => ∃ (p : Addr) (t b : Int), vs = [.ref p, .int t, .int b] ∧ H p = some (.tup (pr (Rat.divInt t b))) ∧ b ≠ 0 ∧ Sm 8000 b ∧ ∀ H', Same H H' → Q (.bl true) H'
theorem pow20 (i : Nat) : (2 : Int) ^ (20 * (i + 1)) = 2 ^ (20 * i) * 1048576 := by
  rw [Nat.mul_add, Int.pow_add]
  rfl
theorem pow_le20 {n : Nat} (h : n ≤ 4) : (2 : Int) ^ (20 * n) ≤ 2 ^ 80 := by
  rcases n with _ | _ | _ | _ | _ | n
  all_goals first | decide | omega
section
variable {P : Program} {w : World} {K : PySem.W.Frag} {mg : Str → Option Value} {base : Heap}
theorem ok_l_great (T : Txt K mg) : FnOk P w K mg base CX0 2 T.a_l_great T.d_l_great ["_law_state", "_law_few"] spGreat := by
  refine T.F_l_great.ok sc_l_great (fun vs H Q E h => ?_) (fun cdv A outer s H vs Q E hr h => ?_)
  · obtain ⟨p, xs, rfl, _⟩ := h
    rfl
  · obtain ⟨p, xs, rfl, hp, hx, q⟩ := h
    refine ⟨_, (pss_cons (ps_set (i := 2) sc_l_great.nd rfl (Or.inl rfl) pe_int)
      (pss_cons (ps_for PassesOwn.never rfl (pi_range1 (by rfl) T.m_range (pa_cons (pe_ix ix_list (pe_lst (pa_cons pe_int (pa_cons (pv 1) pa_nil))) (pe_call (ok_l_digit T) (hr.mono (by decide)) (by rfl) T.g_l_digit T.F_l_digit.kp T.b_l_digit .nil pass0 (pa_cons (pv 0) (pa_cons pe_int pa_nil))) (fun _ _ => rfl)) pa_nil)) (pg_name (i := 3) sc_l_great.nd rfl (Or.inl rfl))
        (pss_one (ps_set (i := 2) sc_l_great.nd rfl (Or.inl rfl) (pe_op op_add (pe_op op_mul (pv 2) (pe_op op_pow pe_int pe_int)) (pe_call (ok_l_digit T) (hr.mono (by decide)) (by rfl) T.g_l_digit T.F_l_digit.kp T.b_l_digit .nil pass0 (pa_cons (pv 0) (pa_cons (pe_op op_add (pe_op op_pow pe_int pe_int) pe_int) pa_nil)))))))
      (pss_one (ps_ret (pv 2))))), ?_⟩
    repeat' walk_at "g"
    walk_at "dg"
    rename_i l nl H1 d1 xs1 f1 h1 st1 d10 d12
    refine' ixP (fun v => ∃ m : Nat, v = .int m ∧ m ≤ 4) (SqL.of ?h) d10 ?h1 ?al (fun iv hiv => ?_)
    case h => walk_at "hp"
    case h1 => exact d12
    case al =>
      intro v hv
      simp only [List.mem_cons, List.not_mem_nil, or_false] at hv
      rcases hv with rfl | rfl
      · exact ⟨2, rfl, by decide⟩
      · exact ⟨4, rfl, by decide⟩
    obtain ⟨m, rfl, hm⟩ := hiv
    have f01 : Frm p H H1 := by walk_at "fr"
    clear f1
    repeat' walk_at "g"
    refine ⟨by omega, by omega, for_range (lo := 0) (n := m) (fun i σ H' => ∃ n y xs', σ = [some (.ref p), some (.int 4), some (.int n), y] ∧ Frm p H H' ∧ H' p = some (.lst xs') ∧ IsSt xs' ∧ 0 ≤ n ∧ n < 2 ^ (20 * i)) ⟨0, none, _, rfl, f01, h1, st1, by decide, by decide⟩ ?_ ?_⟩
    · rintro i σ H2 hi ⟨n, y, xs2, rfl, f2, h2, x2, n0, n1⟩
      repeat' walk_at "g"
      walk_at "dg"
      rename_i H3 d xs3 f3 h3 x3 d0 d1
      repeat' walk_at "g"
      have e5 : (10 : Int) ^ (Int.toNat 5) = 100000 := by decide
      have n2 : n * (10 : Int) ^ (Int.toNat 5) + d < 2 ^ (20 * (i + 1)) := by
        rw [pow20, e5]
        rw [e5] at d1
        generalize (2 : Int) ^ (20 * i) = X at n1
        omega
      refine ⟨_, _, _, rfl, by walk_at "fr", h3, x3, ?_, n2⟩
      show 0 ≤ n * (10 : Int) ^ (Int.toNat 5) + d
      rw [e5]
      omega
    · rintro σ H2 ⟨n, y, xs2, rfl, f2, h2, x2, n0, n1⟩
      repeat' walk_at "g"
      exact q _ _ _ f2 h2 x2 n0 (Int.lt_of_lt_of_le n1 (pow_le20 hm))
theorem ok_l_drawn (T : Txt K mg) : FnOk P w K mg base CX0 3 T.a_l_drawn T.d_l_drawn ["_law_state"] spDrawn := by
  refine T.F_l_drawn.ok sc_l_drawn (fun vs H Q E h => ?_) (fun cdv A outer s H vs Q E hr h => ?_)
  · obtain ⟨p, xs, rfl, _⟩ := h
    rfl
  · obtain ⟨p, xs, rfl, hp, hx, q⟩ := h
    refine ⟨_, (pss_cons (ps_set (i := 1) sc_l_drawn.nd rfl (Or.inl rfl) (pe_op op_mul (pe_ix ix_list (pe_lst (pa_cons pe_int (pa_cons (pe_un un_neg pe_int) (pa_cons pe_int pa_nil)))) (pe_call (ok_l_digit T) (hr.mono (by decide)) (by rfl) T.g_l_digit T.F_l_digit.kp T.b_l_digit .nil pass0 (pa_cons (pv 0) (pa_cons pe_int pa_nil))) (fun _ _ => rfl)) (pe_call (ok_l_great T) (hr.mono (by decide)) (by rfl) T.g_l_great T.F_l_great.kp T.b_l_great .nil pass0 (pa_cons (pv 0) (pa_cons pe_int pa_nil)))))
      (pss_one (ps_ret (pe_call (ok_l_lowest T) (hr.mono (by decide)) (by rfl) T.g_l_lowest T.F_l_lowest.kp T.b_l_lowest .nil pass0 (pa_cons (pe_ix ix_list (pe_lst (pa_cons (pv 1) (pa_cons (pe_call (ok_l_digit T) (hr.mono (by decide)) (by rfl) T.g_l_digit T.F_l_digit.kp T.b_l_digit .nil pass0 (pa_cons (pv 0) (pa_cons pe_int pa_nil))) pa_nil))) (pe_op op_fdiv (pe_call (ok_l_digit T) (hr.mono (by decide)) (by rfl) T.g_l_digit T.F_l_digit.kp T.b_l_digit .nil pass0 (pa_cons (pv 0) (pa_cons pe_int pa_nil))) pe_int) (fun _ _ => rfl)) (pa_cons (pe_op op_add pe_int (pe_call (ok_l_great T) (hr.mono (by decide)) (by rfl) T.g_l_great T.F_l_great.kp T.b_l_great .nil pass0 (pa_cons (pv 0) (pa_cons pe_int pa_nil)))) pa_nil)))))), ?_⟩
    repeat' walk_at "g"
    walk_at "dg"
    rename_i l nl H1 d1 xs1 f1 h1 st1 d10 d12
    refine' ixP (fun v => v = .int 1 ∨ v = .int (-1) ∨ v = .int 0) (SqL.of ?h) d10 ?h1 ?al (fun sv hsv => ?_)
    case h => walk_at "hp"
    case h1 => exact d12
    case al => simp
    have f01 : Frm p H H1 := by walk_at "fr"
    clear f1
    repeat' walk_at "g"
    refine ⟨_, _, rfl, h1, st1, fun H2 n xs2 f2 h2 st2 n0 n1 => ?_⟩
    have f02 : Frm p H H2 := by walk_at "fr"
    clear f2 f01
    obtain ⟨top, htop, stop⟩ : ∃ top : Int, (∃ c : Int, sv = .int c ∧ -1 ≤ c ∧ c ≤ 1 ∧ top = c * n) ∧ Sm 100 top := by
      have e : (2 : Int) ^ 80 = 1208925819614629174706176 := by decide
      rw [e] at n1
      have e2 : (2 : Nat) ^ 100 = 1267650600228229401496703205376 := by decide
      rcases hsv with rfl | rfl | rfl
      · exact ⟨_, ⟨1, rfl, by decide, by decide, rfl⟩, by unfold Sm; rw [e2]; omega⟩
      · exact ⟨_, ⟨-1, rfl, by decide, by decide, rfl⟩, by unfold Sm; rw [e2]; omega⟩
      · exact ⟨_, ⟨0, rfl, by decide, by decide, rfl⟩, by unfold Sm; rw [e2]; omega⟩
    obtain ⟨c, rfl, c0, c1, rfl⟩ := htop
    repeat' walk_at "g"
    walk_at "dg"
    rename_i H3 d3 xs3 f3 h3 st3 d30 d39
    repeat' walk_at "g"
    walk_at "dg"
    rename_i l2 nl2 H4 d4 xs4 f4 h4 st4 d40 d43
    repeat' walk_at "g"
    refine' ixP (fun v => ∃ i, v = .int i ∧ Sm 100 i) (SqL.of ?h) (d := d4 / 2) ?h0 ?h1 ?al (fun iv hiv => ?_)
    case h => walk_at "hp"
    case h0 => omega
    case h1 => show d4 / 2 < 2; omega
    case al =>
      intro v hv
      simp only [List.mem_cons, List.not_mem_nil, or_false] at hv
      rcases hv with rfl | rfl
      · exact ⟨_, rfl, stop⟩
      · exact ⟨_, rfl, by unfold Sm; omega⟩
    obtain ⟨tp, rfl, stp⟩ := hiv
    have f04 : Frm p H H4 := by walk_at "fr"
    clear f4 f3 f02
    repeat' walk_at "g"
    refine ⟨_, _, rfl, h4, st4, fun H5 n5 xs5 f5 h5 st5 n50 n51 => ?_⟩
    have hb : 1 + n5 ≠ 0 := by omega
    have sb : Sm 100 (1 + n5) := by
      have e : (2 : Int) ^ 80 = 1208925819614629174706176 := by decide
      rw [e] at n51
      have e2 : (2 : Nat) ^ 100 = 1267650600228229401496703205376 := by decide
      unfold Sm
      rw [e2]
      omega
    repeat' walk_at "g"
    refine ⟨_, _, rfl, hb, sb.mono (by decide), fun r nr => ?_⟩
    exact q _ _ _ _ (by walk_at "fr") (by walk_at "hp") st5 upd_same ((num_sm hb stp).mono (by decide)) ((den_sm hb sb).mono (by decide))
theorem ok_l_second (T : Txt K mg) : FnOk P w K mg base CX0 4 T.a_l_second T.d_l_second ["_law_state", "_law_left"] spSecond := by
  refine T.F_l_second.ok sc_l_second (fun vs H Q E h => ?_) (fun cdv A outer s H vs Q E hr h => ?_)
  · obtain ⟨p, l, xs, b, rfl, _⟩ := h
    rfl
  · obtain ⟨p, l, xs, b, rfl, hp, hx, hl, s1, s2, q⟩ := h
    refine ⟨_, (pss_cons (ps_set (i := 2) sc_l_second.nd rfl (Or.inl rfl) (pe_call (ok_l_drawn T) (hr.mono (by decide)) (by rfl) T.g_l_drawn T.F_l_drawn.kp T.b_l_drawn .nil pass0 (pa_cons (pv 0) pa_nil)))
      (pss_cons (ps_set (i := 3) sc_l_second.nd rfl (Or.inl rfl) (pe_call (ok_l_digit T) (hr.mono (by decide)) (by rfl) T.g_l_digit T.F_l_digit.kp T.b_l_digit .nil pass0 (pa_cons (pv 0) (pa_cons pe_int pa_nil))))
      (pss_cons (ps_if (pt_cmpR op_eq (pv 3) pe_int (nomark _)) (pss_one (ps_ret (pv 1))) pss_nil)
      (pss_cons (ps_if (pt_cmpR op_eq (pv 3) pe_int (nomark _)) (pss_one (ps_ret (pe_tup (pa_cons (pe_op op_sub pe_int (pe_ix ix_tup (pv 1) pe_int (fun _ _ => rfl))) (pa_cons (pe_ix ix_tup (pv 1) pe_int (fun _ _ => rfl)) pa_nil))))) pss_nil)
      (pss_cons (ps_if (PW.pt (pw_and (pt_cmpR op_eq (pv 3) pe_int (nomark _)) (pw_and1 (pt_cmpR op_ne (pe_ix ix_tup (pv 1) pe_int (fun _ _ => rfl)) pe_int (nomark _))))) (pss_one (ps_ret (pe_call (ok_l_lowest T) (hr.mono (by decide)) (by rfl) T.g_l_lowest T.F_l_lowest.kp T.b_l_lowest .nil pass0 (pa_cons (pe_ix ix_tup (pv 1) pe_int (fun _ _ => rfl)) (pa_cons (pe_ix ix_tup (pv 1) pe_int (fun _ _ => rfl)) pa_nil))))) pss_nil)
      (pss_cons (ps_if (pt_cmpR op_eq (pv 3) pe_int (nomark _)) (pss_one (ps_ret (pe_call (ok_l_lowest T) (hr.mono (by decide)) (by rfl) T.g_l_lowest T.F_l_lowest.kp T.b_l_lowest .nil pass0 (pa_cons (pe_ix ix_tup (pv 2) pe_int (fun _ _ => rfl)) (pa_cons (pe_ix ix_tup (pv 1) pe_int (fun _ _ => rfl)) pa_nil))))) pss_nil)
      (pss_one (ps_ret (pv 2))))))))), ?_⟩
    have lp : l ≠ p := ne_of hl hp (fun z => nomatch z)
    repeat' walk_at "g"
    refine ⟨_, _, rfl, hp, hx, fun H1 xs1 r a f1 h1 st1 hr1 s3 s4 => ?_⟩
    have hl1 : H1 l = some (.tup (pr b)) := by walk_at "hp"
    have rp : r ≠ p := ne_of hr1 h1 (fun z => nomatch z)
    repeat' walk_at "g"
    walk_at "dg"
    rename_i H2 way xs2 f2 h2 st2 w0 w8
    have hl2 : H2 l = some (.tup (pr b)) := by walk_at "hp"
    have hr2 : H2 r = some (.tup (pr a)) := by walk_at "hp"
    have f02 : Frm p H H2 := by walk_at "fr"
    clear f1 f2
    repeat' walk_at "g"
    refine ifC (fun c1 => ?_) (fun c1 => ?_)
    · repeat' walk_at "g"
      exact q _ _ _ f02 hl2 s1 s2
    · repeat' walk_at "g"
      refine ifC (fun c2 => ?_) (fun c2 => ?_)
      · repeat' walk_at "g"
        rename_i n nn
        refine q _ n (-b) (by walk_at "fr") ?_ ?_ ?_
        · rw [upd_same]
          show some (HO.tup [V.int (0 - b.num), V.int (b.den : Int)]) = some (HO.tup [V.int (-b).num, V.int ((-b).den : Int)])
          rw [Int.zero_sub, Rat.neg_num, Rat.neg_den]
        · rw [Rat.neg_num]; exact s1.neg
        · rw [Rat.neg_den]; exact s2
      · repeat' walk_at "g"
        refine ifC (fun c3 => ?_) (fun c3 => ?_)
        · repeat' walk_at "g"
          refine ifC (fun c4 => ?_) (fun c4 => ?_)
          · have hb : b.num ≠ 0 := fun z => by
              have : (!decide (V.int b.num = V.int 0)) = true := c4
              rw [z] at this
              cases this
            repeat' walk_at "g"
            refine ⟨_, _, rfl, hb, s1.mono (by decide), fun n nn => ?_⟩
            exact q _ n _ (by walk_at "fr") upd_same (num_sm hb s2) (den_sm hb s1)
          · repeat' walk_at "g"
            refine ifC (fun c5 => ?_) (fun c5 => ?_)
            · repeat' walk_at "g"
              refine ⟨_, _, rfl, den_ne b, s2.mono (by decide), fun n nn => ?_⟩
              exact q _ n _ (by walk_at "fr") upd_same (num_sm (den_ne b) s3) (den_sm (den_ne b) s2)
            · repeat' walk_at "g"
              exact q _ r _ f02 hr2 s3 s4
        · repeat' walk_at "g"
          refine ifC (fun c5 => ?_) (fun c5 => ?_)
          · repeat' walk_at "g"
            refine ⟨_, _, rfl, den_ne b, s2.mono (by decide), fun n nn => ?_⟩
            exact q _ n _ (by walk_at "fr") upd_same (num_sm (den_ne b) s3) (den_sm (den_ne b) s2)
          · repeat' walk_at "g"
            exact q _ r _ f02 hr2 s3 s4
theorem ok_l_alike (T : Txt K mg) : FnOk P w K mg base CX0 3 T.a_l_alike T.d_l_alike ["_law_found", "_law_top", "_law_bottom"] spAlike := by
  refine T.F_l_alike.ok sc_l_alike (fun vs H Q E h => ?_) (fun cdv A outer s H vs Q E hr h => ?_)
  · obtain ⟨p, t, b, rfl, _⟩ := h
    rfl
  · obtain ⟨p, t, b, rfl, hp, hb, sb, q⟩ := h
    refine ⟨_, (pss_cons (ps_if (PW.pt (pw_or (pt_not (pt_val (pe_callB call_isi (by rfl) T.m_isinstance (by decide +kernel) (pa_cons (pv 0) (pa_cons (pe_bltn (v := .ty "tuple") (by rfl) T.m_tuple (by decide +kernel) rfl) pa_nil))))) (pw_or1 (pt_cmpR op_ne (pe_callB call_len_seq (by rfl) T.m_len (by decide +kernel) (pa_cons (pv 0) pa_nil)) pe_int (nomark _))))) (pss_one (ps_ret pe_bl)) pss_nil)
      (pss_cons (ps_for PassesOwn.never rfl (pi_tup (pv 0)) (pg_name (i := 3) sc_l_alike.nd rfl (Or.inl rfl))
        (pss_one (ps_if (PW.pt (pw_or (pt_not (pt_val (pe_callB call_isi (by rfl) T.m_isinstance (by decide +kernel) (pa_cons (pv 3) (pa_cons (pe_bltn (v := .ty "int") (by rfl) T.m_int (by decide +kernel) rfl) pa_nil))))) (pw_or1 (pt_val (pe_callB call_isi (by rfl) T.m_isinstance (by decide +kernel) (pa_cons (pv 3) (pa_cons (pe_bltn (v := .ty "bool") (by rfl) T.m_bool (by decide +kernel) rfl) pa_nil))))))) (pss_one (ps_ret pe_bl)) pss_nil)))
      (pss_one (ps_ret (pe_cmpR (op_eqD hr.units) (pv 0) (pe_call (ok_l_lowest T) (hr.mono (by decide)) (by rfl) T.g_l_lowest T.F_l_lowest.kp T.b_l_lowest .nil pass0 (pa_cons (pv 1) (pa_cons (pv 2) pa_nil))) (nomark _)))))), ?_⟩
    repeat' walk_at "g"
    refine ⟨_, _, _, _, true, rfl, .ty _, .base (.tup hp), kit_ty (by decide +kernel), ?_⟩
    repeat' walk_at "g"
    refine ⟨⟨_, SqT.of hp⟩, for_tup (K := K) (a := p) (xs := pr (Rat.divInt t b)) (fun _ σ H' => H' = H ∧ ∃ y, σ = [some (.ref p), some (.int t), some (.int b), y]) ⟨rfl, _, rfl⟩ (fun i σ H' _ ⟨e, _⟩ => e ▸ SqT.of hp) ?_ ?_⟩
    · rintro i x σ H' hi ⟨rfl, y, rfl⟩
      obtain ⟨n, rfl⟩ : ∃ n, x = .int n := by
        have hm := List.mem_of_getElem? hi
        simp only [pr, List.mem_cons, List.not_mem_nil, or_false] at hm
        rcases hm with rfl | rfl
        · exact ⟨_, rfl⟩
        · exact ⟨_, rfl⟩
      repeat' walk_at "g"
      refine ⟨_, _, _, _, true, rfl, .ty _, .base (.int n), kit_ty (by decide +kernel), ?_⟩
      repeat' walk_at "g"
      refine ⟨_, _, _, _, false, rfl, .ty _, .base (.int n), kit_ty (by decide +kernel), ?_⟩
      repeat' walk_at "g"
      exact ⟨_, rfl⟩
    · rintro σ H' ⟨rfl, y, rfl⟩
      repeat' walk_at "g"
      refine ⟨_, _, rfl, hb, sb, fun n nn => ?_⟩
      refine eqIntsT (ns := [(Rat.divInt t b).num, ((Rat.divInt t b).den : Int)]) (ms := [(Rat.divInt t b).num, ((Rat.divInt t b).den : Int)]) (SqT.of (upd_old nn hp)) (SqT.of upd_same) ?_
      rw [decide_eq_true rfl]
      exact q _ (by walk_at "fr")
end

def spBoth : Sp := fun vs H Q _ => ∃ (p r : Addr) (a b : Rat), vs = [.ref p, .ref r] ∧ H p = some (.tup (pr a)) ∧ H r = some (.tup (pr b)) ∧ Sm 200 a.num ∧ Sm 200 (a.den : Int) ∧ Sm 200 b.num ∧ Sm 200 (b.den : Int) ∧ ∀ H', Same H H' → Q (.bl true) H'
theorem add_sm {a b : Rat} (h1 : Sm 200 a.num) (h2 : Sm 200 (a.den : Int)) (h3 : Sm 200 b.num) (h4 : Sm 200 (b.den : Int)) : Sm 1900 (a + b).num ∧ Sm 1900 ((a + b).den : Int) := by
  rw [← add_is]
  exact ⟨(num_sm (mul_ne (den_ne a) (den_ne b)) (Sm.add (Sm.mul h1 h4) (Sm.mul h3 h2))).mono (by decide), (den_sm (mul_ne (den_ne a) (den_ne b)) (Sm.mul h2 h4)).mono (by decide)⟩
theorem mul_sm {a b : Rat} (h1 : Sm 200 a.num) (h2 : Sm 200 (a.den : Int)) (h3 : Sm 200 b.num) (h4 : Sm 200 (b.den : Int)) : Sm 1900 (a * b).num ∧ Sm 1900 ((a * b).den : Int) := by
  rw [← mul_is]
  exact ⟨(num_sm (mul_ne (den_ne a) (den_ne b)) (Sm.mul h1 h3)).mono (by decide), (den_sm (mul_ne (den_ne a) (den_ne b)) (Sm.mul h2 h4)).mono (by decide)⟩
section
variable {P : Program} {w : World} {K : PySem.W.Frag} {mg : Str → Option Value} {base : Heap}
theorem ok_l_share_right (T : Txt K mg) : FnOk P w K mg base CX0 4 T.a_l_share_right T.d_l_share_right ["_law_left", "_law_right"] spBoth := by
  refine T.F_l_share_right.ok sc_l_share_right (fun vs H Q E h => ?_) (fun cdv A outer s H vs Q E hr h => ?_)
  · obtain ⟨p, r, a, b, rfl, _⟩ := h
    rfl
  · obtain ⟨p, r, a, b, rfl, hp, hr1, s1, s2, s3, s4, q⟩ := h
    refine ⟨_, (pss_cons (ps_set (i := 2) sc_l_share_right.nd rfl (Or.inl rfl) pe_bl)
      (pss_cons (ps_set (i := 3) sc_l_share_right.nd rfl (Or.inl rfl) pe_non)
      (pss_cons (ps_try_as (i := 4) rfl rfl sc_l_share_right.nd rfl rfl ⟨rfl, by decide, .inl T.g_ScrollError⟩ takes0
        (fun W pn xe tk po => (pss_one (ps_set (i := 3) sc_l_share_right.nd rfl (Or.inl rfl) (pe_callS (ok_shared T) (hr.mono (by decide)) (by rfl) T.g_shared T.F_shared.kp T.b_shared (fun σ => passAt tk σ) (pa_cons (pv 0) (pa_cons (pv 1) pa_nil))))))
        (fun a oe cls d pn hz hf => (pss_one (ps_set (i := 2) sc_l_share_right.nd rfl (Or.inl rfl) (pe_callB (call_isE2 (K := K) rfl hz hf) (by rfl) T.m_isinstance (by decide +kernel) (pa_cons (pv 4) (pa_cons (pe_glob (v := .ref T.c_NoFraction) (by rfl) T.g_NoFraction rfl) pa_nil)))))))
      (pss_cons (ps_if (pt_cmpR op_eq (pe_ix ix_tup (pv 1) pe_int (fun _ _ => rfl)) pe_int (nomark _)) (pss_one (ps_ret (pe_and (pv 2) (pe_one (pe_cmpR op_isN (pv 3) pe_non (nomark _)))))) pss_nil)
      (pss_one (ps_ret (pe_and (pe_not (pv 2)) (pe_one (pe_call (ok_l_alike T) (hr.mono (by decide)) (by rfl) T.g_l_alike T.F_l_alike.kp T.b_l_alike .nil pass0 (pa_cons (pv 3) (pa_cons (pe_op op_mulW (pe_ix ix_tup (pv 0) pe_int (fun _ _ => rfl)) (pe_ix ix_tup (pv 1) pe_int (fun _ _ => rfl))) (pa_cons (pe_op op_mulW (pe_ix ix_tup (pv 0) pe_int (fun _ _ => rfl)) (pe_ix ix_tup (pv 1) pe_int (fun _ _ => rfl))) pa_nil)))))))))))), ?_⟩
    repeat' walk_at "g"
    by_cases hb : b.num = 0
    · refine ⟨_, _, _, _, rfl, hp, hr1, s1.mono (by decide), s2.mono (by decide), s3.mono (by decide), s4.mono (by decide), .inr ⟨hb, true, T.em_NoFraction_ScrollError, fun _ e he => ?_, fun z => Bool.noConfusion z⟩⟩
      refine ⟨_, rfl, _, rfl, rfl, T.xc_NoFraction, _, _, true, rfl, fun u r => r, T.io_NoFraction_NoFraction, ?_⟩
      repeat' walk_at "g"
      refine ifT (by rw [hb]; rfl) ?_
      repeat' walk_at "g"
      exact q _ (Same.refl _)
    · refine ⟨_, _, _, _, rfl, hp, hr1, s1.mono (by decide), s2.mono (by decide), s3.mono (by decide), s4.mono (by decide), .inl ⟨hb, fun H9 n s9 h9 => ?_⟩⟩
      have hp9 := s9 _ _ hp
      have hr9 := s9 _ _ hr1
      repeat' walk_at "g"
      refine ifF (decide_eq_false fun z => hb (V.int.inj z)) ?_
      repeat' walk_at "g"
      refine ⟨_, _, _, rfl, ?_, mul_ne (den_ne a) hb, (Sm.mul s2 s3).mono (by decide), fun H' f' => ?_⟩
      · rw [div_is a b hb]
        exact h9
      · exact q _ (by walk_at "fr")
theorem ok_l_all_right (T : Txt K mg) : FnOk P w K mg base CX0 5 T.a_l_all_right T.d_l_all_right ["_law_left", "_law_right"] spBoth := by
  refine T.F_l_all_right.ok sc_l_all_right (fun vs H Q E h => ?_) (fun cdv A outer s H vs Q E hr h => ?_)
  · obtain ⟨p, r, a, b, rfl, _⟩ := h
    rfl
  · obtain ⟨p, r, a, b, rfl, hp, hr1, s1, s2, s3, s4, q⟩ := h
    refine ⟨_, (pss_cons (ps_set (i := 2) sc_l_all_right.nd rfl (Or.inl rfl) (pe_op op_mulW (pe_ix ix_tup (pv 0) pe_int (fun _ _ => rfl)) (pe_ix ix_tup (pv 1) pe_int (fun _ _ => rfl))))
      (pss_cons (ps_if (pt_not (pt_val (pe_call (ok_l_alike T) (hr.mono (by decide)) (by rfl) T.g_l_alike T.F_l_alike.kp T.b_l_alike .nil pass0 (pa_cons (pe_call (ok_plus T) (hr.mono (by decide)) (by rfl) T.g_plus T.F_plus.kp T.b_plus .nil pass0 (pa_cons (pv 0) (pa_cons (pv 1) pa_nil))) (pa_cons (pe_op op_add (pe_op op_mulW (pe_ix ix_tup (pv 0) pe_int (fun _ _ => rfl)) (pe_ix ix_tup (pv 1) pe_int (fun _ _ => rfl))) (pe_op op_mulW (pe_ix ix_tup (pv 1) pe_int (fun _ _ => rfl)) (pe_ix ix_tup (pv 0) pe_int (fun _ _ => rfl)))) (pa_cons (pv 2) pa_nil)))))) (pss_one (ps_ret pe_bl)) pss_nil)
      (pss_cons (ps_if (pt_not (pt_val (pe_call (ok_l_alike T) (hr.mono (by decide)) (by rfl) T.g_l_alike T.F_l_alike.kp T.b_l_alike .nil pass0 (pa_cons (pe_call (ok_minus T) (hr.mono (by decide)) (by rfl) T.g_minus T.F_minus.kp T.b_minus .nil pass0 (pa_cons (pv 0) (pa_cons (pv 1) pa_nil))) (pa_cons (pe_op op_sub (pe_op op_mulW (pe_ix ix_tup (pv 0) pe_int (fun _ _ => rfl)) (pe_ix ix_tup (pv 1) pe_int (fun _ _ => rfl))) (pe_op op_mulW (pe_ix ix_tup (pv 1) pe_int (fun _ _ => rfl)) (pe_ix ix_tup (pv 0) pe_int (fun _ _ => rfl)))) (pa_cons (pv 2) pa_nil)))))) (pss_one (ps_ret pe_bl)) pss_nil)
      (pss_cons (ps_if (PW.pt (pw_or (pt_not (pt_val (pe_call (ok_l_alike T) (hr.mono (by decide)) (by rfl) T.g_l_alike T.F_l_alike.kp T.b_l_alike .nil pass0 (pa_cons (pe_call (ok_times T) (hr.mono (by decide)) (by rfl) T.g_times T.F_times.kp T.b_times .nil pass0 (pa_cons (pv 0) (pa_cons (pv 1) pa_nil))) (pa_cons (pe_op op_mulW (pe_ix ix_tup (pv 0) pe_int (fun _ _ => rfl)) (pe_ix ix_tup (pv 1) pe_int (fun _ _ => rfl))) (pa_cons (pv 2) pa_nil)))))) (pw_or1 (pt_not (pt_val (pe_call (ok_l_share_right T) (hr.mono (by decide)) (by rfl) T.g_l_share_right T.F_l_share_right.kp T.b_l_share_right .nil pass0 (pa_cons (pv 0) (pa_cons (pv 1) pa_nil)))))))) (pss_one (ps_ret pe_bl)) pss_nil)
      (pss_cons (ps_if (pt_cmpR (op_neD hr.units) (pe_call (ok_minus T) (hr.mono (by decide)) (by rfl) T.g_minus T.F_minus.kp T.b_minus .nil pass0 (pa_cons (pe_call (ok_plus T) (hr.mono (by decide)) (by rfl) T.g_plus T.F_plus.kp T.b_plus .nil pass0 (pa_cons (pv 0) (pa_cons (pv 1) pa_nil))) (pa_cons (pv 1) pa_nil))) (pv 0) (nomark _)) (pss_one (ps_ret pe_bl)) pss_nil)
      (pss_one (ps_ret (pe_or (pe_cmpR op_eq (pe_ix ix_tup (pv 1) pe_int (fun _ _ => rfl)) pe_int (nomark _)) (pe_one (pe_cmpR (op_eqD hr.units) (pe_callN0 (ok_shared T) (hr.mono (by decide)) (by rfl) T.g_shared T.F_shared.kp T.kb_shared_one_other passL (pk_cons (pe_call (ok_times T) (hr.mono (by decide)) (by rfl) T.g_times T.F_times.kp T.b_times .nil pass0 (pa_cons (pv 0) (pa_cons (pv 1) pa_nil))) (pk_cons (pv 1) pk_nil))) (pv 0) (nomark _))))))))))), ?_⟩
    have t1 : Sm 1900 a.num := s1.mono (by decide)
    have t2 : Sm 1900 (a.den : Int) := s2.mono (by decide)
    have t3 : Sm 1900 b.num := s3.mono (by decide)
    have t4 : Sm 1900 (b.den : Int) := s4.mono (by decide)
    have hd := mul_ne (den_ne a) (den_ne b)
    have sd : Sm 8000 ((a.den : Int) * (b.den : Int)) := (Sm.mul s2 s4).mono (by decide)
    repeat' walk_at "g"
    -- plus
    refine ⟨_, _, _, _, rfl, hp, hr1, t1, t2, t3, t4, fun n1 m1 => ?_⟩
    repeat' walk_at "g"
    refine ⟨_, _, _, rfl, by rw [add_is]; exact upd_same, hd, sd, fun H1 f1 => ?_⟩
    have hp1 : H1 p = some (.tup (pr a)) := by walk_at "hp"
    have hq1 : H1 r = some (.tup (pr b)) := by walk_at "hp"
    have m01 : Same H H1 := by walk_at "fr"
    clear f1 m1
    repeat' walk_at "g"
    -- minus
    refine ⟨_, _, _, _, rfl, hp1, hq1, t1, t2, t3, t4, fun n2 m2 => ?_⟩
    repeat' walk_at "g"
    refine ⟨_, _, _, rfl, by rw [sub_is]; exact upd_same, hd, sd, fun H2 f2 => ?_⟩
    have hp2 : H2 p = some (.tup (pr a)) := by walk_at "hp"
    have hq2 : H2 r = some (.tup (pr b)) := by walk_at "hp"
    have m02 : Same H H2 := by walk_at "fr"
    clear f2 m2 m01 hp1 hq1
    repeat' walk_at "g"
    -- times
    refine ⟨_, _, _, _, rfl, hp2, hq2, t1, t2, t3, t4, fun n3 m3 => ?_⟩
    repeat' walk_at "g"
    refine ⟨_, _, _, rfl, by rw [mul_is]; exact upd_same, hd, sd, fun H3 f3 => ?_⟩
    have hp3 : H3 p = some (.tup (pr a)) := by walk_at "hp"
    have hq3 : H3 r = some (.tup (pr b)) := by walk_at "hp"
    have m03 : Same H H3 := by walk_at "fr"
    clear f3 m3 m02 hp2 hq2
    repeat' walk_at "g"
    refine ⟨_, _, _, _, rfl, hp3, hq3, s1, s2, s3, s4, fun H4 f4 => ?_⟩
    have hp4 : H4 p = some (.tup (pr a)) := by walk_at "hp"
    have hq4 : H4 r = some (.tup (pr b)) := by walk_at "hp"
    have m04 : Same H H4 := by walk_at "fr"
    clear f4 m03 hp3 hq3
    repeat' walk_at "g"
    -- minus undoes plus
    refine ⟨_, _, _, _, rfl, hp4, hq4, t1, t2, t3, t4, fun n5 m5 => ?_⟩
    repeat' walk_at "g"
    obtain ⟨k1, k2⟩ := add_sm s1 s2 s3 s4
    refine ⟨_, _, _, _, rfl, upd_same, by walk_at "hp", k1, k2, t3, t4, fun n6 m6 => ?_⟩
    have e1 : a + b - b = a := by grind
    rw [show (fun x1 x2 : Rat => x1 - x2) ((fun x1 x2 : Rat => x1 + x2) a b) b = a from e1]
    repeat' walk_at "g"
    refine neqIntsT (ns := [a.num, (a.den : Int)]) (ms := [a.num, (a.den : Int)]) (SqT.of upd_same) (SqT.of (by walk_at "hp")) ?_
    rw [decide_eq_true rfl]
    repeat' walk_at "g"
    -- shared undoes times
    by_cases hb : b.num = 0
    · refine ifT (by rw [hb]; rfl) ?_
      exact q _ (by walk_at "fr")
    · refine ifF (decide_eq_false fun z => hb (V.int.inj z)) ?_
      repeat' walk_at "g"
      obtain ⟨k3, k4⟩ := mul_sm s1 s2 s3 s4
      refine ⟨_, _, _, _, rfl, by walk_at "hp", by walk_at "hp", t1, t2, t3, t4, fun n7 m7 => ?_⟩
      repeat' walk_at "g"
      refine ⟨_, _, _, _, rfl, upd_same, by walk_at "hp", k3, k4, t3, t4, .inl ⟨hb, fun H8 n8 s8 h8 => ?_⟩⟩
      have hb2 : b ≠ 0 := fun z => hb (by rw [z]; rfl)
      have e2 : a * b / b = a := by grind
      rw [show (fun x1 x2 : Rat => x1 * x2) a b / b = a from e2] at h8
      have hp8 : H8 p = some (.tup (pr a)) := s8 _ _ (by walk_at "hp")
      have m08 : Same H H8 := Same.trans (by walk_at "fr") s8
      clear s8 m7 m6 m5
      repeat' walk_at "g"
      refine eqIntsT (ns := [a.num, (a.den : Int)]) (ms := [a.num, (a.den : Int)]) (SqT.of h8) (SqT.of hp8) ?_
      rw [decide_eq_true rfl]
      exact q _ (by walk_at "fr")
end

def spLaw (K : PySem.W.Frag) : Sp := fun vs H Q _ => ∃ (a : Addr) (ns : List Int), vs = [.ref a] ∧ SqL K H a (ns.map V.int) ∧ ns.length ≤ 63 ∧ ∀ H', Q (.bl true) H'
section
variable {P : Program} {w : World} {K : PySem.W.Frag} {mg : Str → Option Value} {base : Heap}
theorem ok_law (T : Txt K mg) : FnOk P w K mg base CX0 6 T.a_law T.d_law ["_law_script"] (spLaw K) := by
  refine T.F_law.ok sc_law (fun vs H Q E h => ?_) (fun cdv A outer s H vs Q E hr h => ?_)
  · obtain ⟨a, ns, rfl, _⟩ := h
    rfl
  · obtain ⟨z, ns, rfl, hS, hlen, q⟩ := h
    refine ⟨_, (pss_cons (ps_set (i := 1) sc_law.nd rfl (Or.inl rfl) (pe_call (ok_l_drawn T) (hr.mono (by decide)) (by rfl) T.g_l_drawn T.F_l_drawn.kp T.b_l_drawn .nil pass0 (pa_cons (pe_lst (pa_cons (pe_call (ok_l_cell_at T) (hr.mono (by decide)) (by rfl) T.g_l_cell_at T.F_l_cell_at.kp T.b_l_cell_at .nil pass0 (pa_cons (pv 0) (pa_cons pe_int pa_nil))) pa_nil)) pa_nil)))
      (pss_cons (ps_set (i := 2) sc_law.nd rfl (Or.inl rfl) (pe_call (ok_l_second T) (hr.mono (by decide)) (by rfl) T.g_l_second T.F_l_second.kp T.b_l_second .nil pass0 (pa_cons (pe_lst (pa_cons (pe_call (ok_l_cell_at T) (hr.mono (by decide)) (by rfl) T.g_l_cell_at T.F_l_cell_at.kp T.b_l_cell_at .nil pass0 (pa_cons (pv 0) (pa_cons pe_int pa_nil))) pa_nil)) (pa_cons (pv 1) pa_nil))))
      (pss_cons (ps_if (PW.pt (pw_or (pt_cmpR (op_neD hr.units) (pe_call (ok_fraction T) (hr.mono (by decide)) (by rfl) T.g_fraction T.F_fraction.kp T.b_fraction .nil passL (pa_cons (pe_ix ix_tup (pv 1) pe_int (fun _ _ => rfl)) (pa_cons (pe_ix ix_tup (pv 1) pe_int (fun _ _ => rfl)) pa_nil))) (pv 1) (nomark _)) (pw_or1 (pt_cmpR (op_neD hr.units) (pe_callN0 (ok_minus T) (hr.mono (by decide)) (by rfl) T.g_minus T.F_minus.kp T.kb_minus_other_one pass0 (pk_cons (pv 2) (pk_cons (pv 1) pk_nil))) (pe_call (ok_minus T) (hr.mono (by decide)) (by rfl) T.g_minus T.F_minus.kp T.b_minus .nil pass0 (pa_cons (pv 1) (pa_cons (pv 2) pa_nil))) (nomark _))))) (pss_one (ps_ret pe_bl)) pss_nil)
      (pss_cons (ps_set (i := 3) sc_law.nd rfl (Or.inl rfl) (pe_call (ok_l_second T) (hr.mono (by decide)) (by rfl) T.g_l_second T.F_l_second.kp T.b_l_second .nil pass0 (pa_cons (pe_lst (pa_cons (pe_call (ok_l_cell_at T) (hr.mono (by decide)) (by rfl) T.g_l_cell_at T.F_l_cell_at.kp T.b_l_cell_at .nil pass0 (pa_cons (pv 0) (pa_cons pe_int pa_nil))) pa_nil)) (pa_cons (pv 2) pa_nil))))
      (pss_one (ps_ret (pe_and (pe_call (ok_l_all_right T) (hr.mono (by decide)) (by rfl) T.g_l_all_right T.F_l_all_right.kp T.b_l_all_right .nil pass0 (pa_cons (pv 1) (pa_cons (pv 2) pa_nil))) (pe_and (pe_call (ok_l_all_right T) (hr.mono (by decide)) (by rfl) T.g_l_all_right T.F_l_all_right.kp T.b_l_all_right .nil pass0 (pa_cons (pv 2) (pa_cons (pv 1) pa_nil))) (pe_one (pe_call (ok_l_all_right T) (hr.mono (by decide)) (by rfl) T.g_l_all_right T.F_l_all_right.kp T.b_l_all_right .nil pass0 (pa_cons (pv 3) (pa_cons (pv 1) pa_nil)))))))))))), ?_⟩
    repeat' walk_at "g"
    refine ⟨_, _, _, rfl, hS, by decide, fun n0 _ => ?_⟩
    repeat' walk_at "g"
    rename_i p1 np1
    refine ⟨_, _, rfl, upd_same, .inl ⟨_, rfl⟩, fun H1 xs1 l a f1 h1 st1 hl s1 s2 => ?_⟩
    have m1 : Same H H1 := by walk_at "fr"
    clear f1
    repeat' walk_at "g"
    refine ⟨_, _, _, rfl, m1.seq hS, by decide, fun n1 _ => ?_⟩
    repeat' walk_at "g"
    rename_i p2 np2
    have l2 : p2 ≠ l := new_ne np2 hl
    have np2H : H p2 = none := m1.free np2
    refine ⟨_, _, _, _, rfl, upd_same, .inl ⟨_, rfl⟩, by walk_at "hp", s1, s2, fun H2 r b f2 hr2 s3 s4 => ?_⟩
    have hl2 : H2 l = some (.tup (pr a)) := by walk_at "hp"
    have m2 : Same H H2 := by walk_at "fr"
    clear f2 np2 m1 hl
    repeat' walk_at "g"
    refine ⟨_, _, rfl, .int _, .int _, .inl ⟨_, _, rfl, rfl, den_ne a, s2.mono (by decide), fun n3 m3 => ?_⟩⟩
    rw [divInt_self]
    repeat' walk_at "g"
    refine neqIntsT (ns := [a.num, (a.den : Int)]) (ms := [a.num, (a.den : Int)]) (SqT.of upd_same) (SqT.of (by walk_at "hp")) ?_
    rw [decide_eq_true rfl]
    repeat' walk_at "g"
    refine ⟨_, _, _, _, rfl, by walk_at "hp", by walk_at "hp", s1.mono (by decide), s2.mono (by decide), s3.mono (by decide), s4.mono (by decide), fun n4 m4 => ?_⟩
    repeat' walk_at "g"
    refine ⟨_, _, _, _, rfl, by walk_at "hp", by walk_at "hp", s1.mono (by decide), s2.mono (by decide), s3.mono (by decide), s4.mono (by decide), fun n5 m5 => ?_⟩
    repeat' walk_at "g"
    refine neqIntsT (ns := [(a - b).num, ((a - b).den : Int)]) (ms := [(a - b).num, ((a - b).den : Int)]) (SqT.of (by walk_at "hp")) (SqT.of upd_same) ?_
    rw [decide_eq_true rfl]
    have hl6 : upd (upd (upd H2 n3 (.tup (pr a))) n4 (.tup (pr (a - b)))) n5 (.tup (pr (a - b))) l = some (.tup (pr a)) := by walk_at "hp"
    have hr6 : upd (upd (upd H2 n3 (.tup (pr a))) n4 (.tup (pr (a - b)))) n5 (.tup (pr (a - b))) r = some (.tup (pr b)) := by walk_at "hp"
    have m6 : Same H (upd (upd (upd H2 n3 (.tup (pr a))) n4 (.tup (pr (a - b)))) n5 (.tup (pr (a - b)))) := by walk_at "fr"
    repeat' walk_at "g"
    refine ⟨_, _, _, rfl, m6.seq hS, by decide, fun n2 _ => ?_⟩
    repeat' walk_at "g"
    rename_i p3 np3
    have l3 : p3 ≠ l := new_ne np3 hl6
    have r3 : p3 ≠ r := new_ne np3 hr6
    refine ⟨_, _, _, _, rfl, upd_same, .inl ⟨_, rfl⟩, upd_old np3 hr6, s3, s4, fun H7 t c f7 ht7 s5 s6 => ?_⟩
    have hl7 : H7 l = some (.tup (pr a)) := f7 _ _ l3.symm (upd_old np3 hl6)
    have hr7 : H7 r = some (.tup (pr b)) := f7 _ _ r3.symm (upd_old np3 hr6)
    repeat' walk_at "g"
    refine ⟨_, _, _, _, rfl, hl7, hr7, s1, s2, s3, s4, fun H8 f8 => ?_⟩
    repeat' walk_at "g"
    refine ⟨_, _, _, _, rfl, f8 _ _ hr7, f8 _ _ hl7, s3, s4, s1, s2, fun H9 f9 => ?_⟩
    repeat' walk_at "g"
    refine ⟨_, _, _, _, rfl, f9 _ _ (f8 _ _ ht7), f9 _ _ (f8 _ _ hl7), s5, s6, s1, s2, fun H10 f10 => ?_⟩
    exact q _
end
theorem all_mk {l : PySem.W.OpenLaw} {w : World} {K : PySem.W.Frag} {h : Heap} {mg : Str → Option Value} {fa : Addr} (X : K.In h) (G : h.Ns mainGlobals mg) (hfa : mg "law" = some (.ref fa))
    {f0 : Addr} {od0 an0 : Option Addr} {sl0 : Array (Option Value)} {oc0 kV0 dc0 pm0 cd0 ct0 : Value}
    (a0 : PySem.W.nsIn K mainGlobals "is_number" = some (some (.ref f0)))
    (l0 : K.lookup f0 = some ⟨oc0, od0, .func (PySem.W.fnOf "is_number" "is_number" (defArgs s_is_number) (defBody s_is_number) (defScope s_is_number) .none kV0 dc0 pm0 an0 cd0 ct0), sl0⟩) (c0 : PySem.W.codeIn K cd0 "is_number" = true) (k0 : PySem.W.keepIn K (.ref f0) = true)
    {f1 : Addr} {od1 an1 : Option Addr} {sl1 : Array (Option Value)} {oc1 kV1 dc1 pm1 cd1 ct1 : Value}
    (a1 : PySem.W.nsIn K mainGlobals "common_divisor" = some (some (.ref f1)))
    (l1 : K.lookup f1 = some ⟨oc1, od1, .func (PySem.W.fnOf "common_divisor" "common_divisor" (defArgs s_common_divisor) (defBody s_common_divisor) (defScope s_common_divisor) .none kV1 dc1 pm1 an1 cd1 ct1), sl1⟩) (c1 : PySem.W.codeIn K cd1 "common_divisor" = true) (k1 : PySem.W.keepIn K (.ref f1) = true)
    {f2 : Addr} {od2 an2 : Option Addr} {sl2 : Array (Option Value)} {oc2 kV2 dc2 pm2 cd2 ct2 : Value}
    {dT2 : Addr} {do2 : Obj} {dn2 : Nat}
    (a2 : PySem.W.nsIn K mainGlobals "fraction" = some (some (.ref f2)))
    {dt2_0 : Tok}
    (l2 : K.lookup f2 = some ⟨oc2, od2, .func (PySem.W.fnOf "fraction" "fraction" (defArgs s_fraction) (defBody s_fraction) (defScope s_fraction) (.ref dT2) kV2 dc2 pm2 an2 cd2 ct2), sl2⟩) (c2 : PySem.W.codeIn K cd2 "fraction" = true) (k2 : PySem.W.keepIn K (.ref f2) = true)
    (e2 : K.lookup dT2 = some do2) (q2 : do2.data = .seq #[.int 1 dt2_0] dn2)
    {f3 : Addr} {od3 an3 : Option Addr} {sl3 : Array (Option Value)} {oc3 kV3 dc3 pm3 cd3 ct3 : Value}
    (a3 : PySem.W.nsIn K mainGlobals "summed" = some (some (.ref f3)))
    (l3 : K.lookup f3 = some ⟨oc3, od3, .func (PySem.W.fnOf "summed" "summed" (defArgs s_summed) (defBody s_summed) (defScope s_summed) .none kV3 dc3 pm3 an3 cd3 ct3), sl3⟩) (c3 : PySem.W.codeIn K cd3 "summed" = true) (k3 : PySem.W.keepIn K (.ref f3) = true)
    {f4 : Addr} {od4 an4 : Option Addr} {sl4 : Array (Option Value)} {oc4 kV4 dc4 pm4 cd4 ct4 : Value}
    (a4 : PySem.W.nsIn K mainGlobals "plus" = some (some (.ref f4)))
    (l4 : K.lookup f4 = some ⟨oc4, od4, .func (PySem.W.fnOf "plus" "plus" (defArgs s_plus) (defBody s_plus) (defScope s_plus) .none kV4 dc4 pm4 an4 cd4 ct4), sl4⟩) (c4 : PySem.W.codeIn K cd4 "plus" = true) (k4 : PySem.W.keepIn K (.ref f4) = true)
    {f5 : Addr} {od5 an5 : Option Addr} {sl5 : Array (Option Value)} {oc5 kV5 dc5 pm5 cd5 ct5 : Value}
    (a5 : PySem.W.nsIn K mainGlobals "minus" = some (some (.ref f5)))
    (l5 : K.lookup f5 = some ⟨oc5, od5, .func (PySem.W.fnOf "minus" "minus" (defArgs s_minus) (defBody s_minus) (defScope s_minus) .none kV5 dc5 pm5 an5 cd5 ct5), sl5⟩) (c5 : PySem.W.codeIn K cd5 "minus" = true) (k5 : PySem.W.keepIn K (.ref f5) = true)
    {f6 : Addr} {od6 an6 : Option Addr} {sl6 : Array (Option Value)} {oc6 kV6 dc6 pm6 cd6 ct6 : Value}
    (a6 : PySem.W.nsIn K mainGlobals "times" = some (some (.ref f6)))
    (l6 : K.lookup f6 = some ⟨oc6, od6, .func (PySem.W.fnOf "times" "times" (defArgs s_times) (defBody s_times) (defScope s_times) .none kV6 dc6 pm6 an6 cd6 ct6), sl6⟩) (c6 : PySem.W.codeIn K cd6 "times" = true) (k6 : PySem.W.keepIn K (.ref f6) = true)
    {f7 : Addr} {od7 an7 : Option Addr} {sl7 : Array (Option Value)} {oc7 kV7 dc7 pm7 cd7 ct7 : Value}
    (a7 : PySem.W.nsIn K mainGlobals "shared" = some (some (.ref f7)))
    (l7 : K.lookup f7 = some ⟨oc7, od7, .func (PySem.W.fnOf "shared" "shared" (defArgs s_shared) (defBody s_shared) (defScope s_shared) .none kV7 dc7 pm7 an7 cd7 ct7), sl7⟩) (c7 : PySem.W.codeIn K cd7 "shared" = true) (k7 : PySem.W.keepIn K (.ref f7) = true)
    {f8 : Addr} {od8 an8 : Option Addr} {sl8 : Array (Option Value)} {oc8 kV8 dc8 pm8 cd8 ct8 : Value}
    (a8 : PySem.W.nsIn K mainGlobals "_law_cell_at" = some (some (.ref f8)))
    (l8 : K.lookup f8 = some ⟨oc8, od8, .func (PySem.W.fnOf "_law_cell_at" "_law_cell_at" (defArgs s_l_cell_at) (defBody s_l_cell_at) (defScope s_l_cell_at) .none kV8 dc8 pm8 an8 cd8 ct8), sl8⟩) (c8 : PySem.W.codeIn K cd8 "_law_cell_at" = true) (k8 : PySem.W.keepIn K (.ref f8) = true)
    {f9 : Addr} {od9 an9 : Option Addr} {sl9 : Array (Option Value)} {oc9 kV9 dc9 pm9 cd9 ct9 : Value}
    (a9 : PySem.W.nsIn K mainGlobals "_law_digit" = some (some (.ref f9)))
    (l9 : K.lookup f9 = some ⟨oc9, od9, .func (PySem.W.fnOf "_law_digit" "_law_digit" (defArgs s_l_digit) (defBody s_l_digit) (defScope s_l_digit) .none kV9 dc9 pm9 an9 cd9 ct9), sl9⟩) (c9 : PySem.W.codeIn K cd9 "_law_digit" = true) (k9 : PySem.W.keepIn K (.ref f9) = true)
    {f10 : Addr} {od10 an10 : Option Addr} {sl10 : Array (Option Value)} {oc10 kV10 dc10 pm10 cd10 ct10 : Value}
    (a10 : PySem.W.nsIn K mainGlobals "_law_great" = some (some (.ref f10)))
    (l10 : K.lookup f10 = some ⟨oc10, od10, .func (PySem.W.fnOf "_law_great" "_law_great" (defArgs s_l_great) (defBody s_l_great) (defScope s_l_great) .none kV10 dc10 pm10 an10 cd10 ct10), sl10⟩) (c10 : PySem.W.codeIn K cd10 "_law_great" = true) (k10 : PySem.W.keepIn K (.ref f10) = true)
    {f11 : Addr} {od11 an11 : Option Addr} {sl11 : Array (Option Value)} {oc11 kV11 dc11 pm11 cd11 ct11 : Value}
    (a11 : PySem.W.nsIn K mainGlobals "_law_shared" = some (some (.ref f11)))
    (l11 : K.lookup f11 = some ⟨oc11, od11, .func (PySem.W.fnOf "_law_shared" "_law_shared" (defArgs s_l_shared) (defBody s_l_shared) (defScope s_l_shared) .none kV11 dc11 pm11 an11 cd11 ct11), sl11⟩) (c11 : PySem.W.codeIn K cd11 "_law_shared" = true) (k11 : PySem.W.keepIn K (.ref f11) = true)
    {f12 : Addr} {od12 an12 : Option Addr} {sl12 : Array (Option Value)} {oc12 kV12 dc12 pm12 cd12 ct12 : Value}
    (a12 : PySem.W.nsIn K mainGlobals "_law_lowest" = some (some (.ref f12)))
    (l12 : K.lookup f12 = some ⟨oc12, od12, .func (PySem.W.fnOf "_law_lowest" "_law_lowest" (defArgs s_l_lowest) (defBody s_l_lowest) (defScope s_l_lowest) .none kV12 dc12 pm12 an12 cd12 ct12), sl12⟩) (c12 : PySem.W.codeIn K cd12 "_law_lowest" = true) (k12 : PySem.W.keepIn K (.ref f12) = true)
    {f13 : Addr} {od13 an13 : Option Addr} {sl13 : Array (Option Value)} {oc13 kV13 dc13 pm13 cd13 ct13 : Value}
    (a13 : PySem.W.nsIn K mainGlobals "_law_drawn" = some (some (.ref f13)))
    (l13 : K.lookup f13 = some ⟨oc13, od13, .func (PySem.W.fnOf "_law_drawn" "_law_drawn" (defArgs s_l_drawn) (defBody s_l_drawn) (defScope s_l_drawn) .none kV13 dc13 pm13 an13 cd13 ct13), sl13⟩) (c13 : PySem.W.codeIn K cd13 "_law_drawn" = true) (k13 : PySem.W.keepIn K (.ref f13) = true)
    {f14 : Addr} {od14 an14 : Option Addr} {sl14 : Array (Option Value)} {oc14 kV14 dc14 pm14 cd14 ct14 : Value}
    (a14 : PySem.W.nsIn K mainGlobals "_law_second" = some (some (.ref f14)))
    (l14 : K.lookup f14 = some ⟨oc14, od14, .func (PySem.W.fnOf "_law_second" "_law_second" (defArgs s_l_second) (defBody s_l_second) (defScope s_l_second) .none kV14 dc14 pm14 an14 cd14 ct14), sl14⟩) (c14 : PySem.W.codeIn K cd14 "_law_second" = true) (k14 : PySem.W.keepIn K (.ref f14) = true)
    {f15 : Addr} {od15 an15 : Option Addr} {sl15 : Array (Option Value)} {oc15 kV15 dc15 pm15 cd15 ct15 : Value}
    (a15 : PySem.W.nsIn K mainGlobals "_law_alike" = some (some (.ref f15)))
    (l15 : K.lookup f15 = some ⟨oc15, od15, .func (PySem.W.fnOf "_law_alike" "_law_alike" (defArgs s_l_alike) (defBody s_l_alike) (defScope s_l_alike) .none kV15 dc15 pm15 an15 cd15 ct15), sl15⟩) (c15 : PySem.W.codeIn K cd15 "_law_alike" = true) (k15 : PySem.W.keepIn K (.ref f15) = true)
    {f16 : Addr} {od16 an16 : Option Addr} {sl16 : Array (Option Value)} {oc16 kV16 dc16 pm16 cd16 ct16 : Value}
    (a16 : PySem.W.nsIn K mainGlobals "_law_share_right" = some (some (.ref f16)))
    (l16 : K.lookup f16 = some ⟨oc16, od16, .func (PySem.W.fnOf "_law_share_right" "_law_share_right" (defArgs s_l_share_right) (defBody s_l_share_right) (defScope s_l_share_right) .none kV16 dc16 pm16 an16 cd16 ct16), sl16⟩) (c16 : PySem.W.codeIn K cd16 "_law_share_right" = true) (k16 : PySem.W.keepIn K (.ref f16) = true)
    {f17 : Addr} {od17 an17 : Option Addr} {sl17 : Array (Option Value)} {oc17 kV17 dc17 pm17 cd17 ct17 : Value}
    (a17 : PySem.W.nsIn K mainGlobals "_law_all_right" = some (some (.ref f17)))
    (l17 : K.lookup f17 = some ⟨oc17, od17, .func (PySem.W.fnOf "_law_all_right" "_law_all_right" (defArgs s_l_all_right) (defBody s_l_all_right) (defScope s_l_all_right) .none kV17 dc17 pm17 an17 cd17 ct17), sl17⟩) (c17 : PySem.W.codeIn K cd17 "_law_all_right" = true) (k17 : PySem.W.keepIn K (.ref f17) = true)
    {f18 : Addr} {od18 an18 : Option Addr} {sl18 : Array (Option Value)} {oc18 kV18 dc18 pm18 cd18 ct18 : Value}
    (a18 : PySem.W.nsIn K mainGlobals "law" = some (some (.ref f18)))
    (l18 : K.lookup f18 = some ⟨oc18, od18, .func (PySem.W.fnOf "law" "law" (defArgs s_law) (defBody s_law) (defScope s_law) .none kV18 dc18 pm18 an18 cd18 ct18), sl18⟩) (c18 : PySem.W.codeIn K cd18 "law" = true) (k18 : PySem.W.keepIn K (.ref f18) = true)
    (z_abs : PySem.W.nsIn K mainGlobals "abs" = some none)
    (z_bool : PySem.W.nsIn K mainGlobals "bool" = some none)
    (z_int : PySem.W.nsIn K mainGlobals "int" = some none)
    (z_isinstance : PySem.W.nsIn K mainGlobals "isinstance" = some none)
    (z_len : PySem.W.nsIn K mainGlobals "len" = some none)
    (z_range : PySem.W.nsIn K mainGlobals "range" = some none)
    (z_tuple : PySem.W.nsIn K mainGlobals "tuple" = some none)
    {C_ScrollError : Addr} (g_ScrollError : PySem.W.nsIn K mainGlobals "ScrollError" = some (some (.ref C_ScrollError)))
    {C_NoFraction : Addr} (g_NoFraction : PySem.W.nsIn K mainGlobals "NoFraction" = some (some (.ref C_NoFraction)))
    (x_NoFraction : PySem.W.excIn K C_NoFraction [.type "ValueError", .type "Exception", .type "BaseException", .type "object"] "ValueError.__new__" = true) (kc_NoFraction : PySem.W.keepIn K (.ref C_NoFraction) = true) (bb_NoFraction : PySem.W.subIn K (.ref C_NoFraction) (.type "BaseException") = some true) (t_NoFraction : PySem.W.typeIn K (.ref C_NoFraction) = some (.type "type"))
    (xa_NoFraction : PySem.W.findIn K (.ref C_NoFraction) "__getattribute__" = some (some (.builtin "BaseException.__getattribute__"))) (xb_NoFraction : PySem.W.findIn K (.ref C_NoFraction) "__getattr__" = some none) (xc_NoFraction : PySem.W.hasDictIn K C_NoFraction = true) (xd_NoFraction : PySem.W.findIn K (.ref C_NoFraction) "__class__" = some (some (.builtin "object.__class__")))
    (xe_NoFraction : PySem.W.specialIn K (.builtin "object.__class__") "__get__" = some (some (.builtin "getset_descriptor.__get__"))) (xf_NoFraction : PySem.W.takesIn K (.builtin "object.__class__") = some true) (xg_NoFraction : PySem.W.mroIn K C_NoFraction (.type "object") = some true)
    (sb_NoFraction_ScrollError : PySem.W.subIn K (.ref C_NoFraction) (.ref C_ScrollError) = some true) (bs_NoFraction_ScrollError : PySem.W.subIn K (.ref C_ScrollError) (.type "BaseException") = some true) (ts_NoFraction_ScrollError : PySem.W.typeIn K (.ref C_ScrollError) = some (.type "type")) (is_NoFraction_ScrollError : PySem.W.isClsIn K C_ScrollError = true)
    (io_NoFraction_NoFraction : PySem.W.kitOne K (.ref C_NoFraction) (.ref C_NoFraction) = some true)
    : ∃ fd : FuncData, (∀ (s : Shared) (v : Value), BindsTo s fd ⟨[v], []⟩ [("_law_script", v)]) ∧ ∀ base : Heap, K.In base → base.Ns mainGlobals mg → FnOk l.prog w K mg base CX0 6 fa fd ["_law_script"] (spLaw K) := by
  have e := hfa.symm.trans (PySem.W.mg_of X G a18)
  cases e
  have F0 := fun_mk (st := s_is_number) l0 c0 k0
  have F1 := fun_mk (st := s_common_divisor) l1 c1 k1
  have F2 : FunD K "fraction" "fraction" (defArgs s_fraction) (defBody s_fraction) (defScope s_fraction) [V.int 1] [] f2 _ := ⟨⟨_, _, _, _, _, _, _, _, _, _, rfl, l2, c2, .inr ⟨(fun z => nomatch z), _, _, [.int 1 dt2_0], _, rfl, e2, q2, .cons ⟨_, rfl⟩ (.nil)⟩, .inl rfl⟩, k2⟩
  have F3 := fun_mk (st := s_summed) l3 c3 k3
  have F4 := fun_mk (st := s_plus) l4 c4 k4
  have F5 := fun_mk (st := s_minus) l5 c5 k5
  have F6 := fun_mk (st := s_times) l6 c6 k6
  have F7 := fun_mk (st := s_shared) l7 c7 k7
  have F8 := fun_mk (st := s_l_cell_at) l8 c8 k8
  have F9 := fun_mk (st := s_l_digit) l9 c9 k9
  have F10 := fun_mk (st := s_l_great) l10 c10 k10
  have F11 := fun_mk (st := s_l_shared) l11 c11 k11
  have F12 := fun_mk (st := s_l_lowest) l12 c12 k12
  have F13 := fun_mk (st := s_l_drawn) l13 c13 k13
  have F14 := fun_mk (st := s_l_second) l14 c14 k14
  have F15 := fun_mk (st := s_l_alike) l15 c15 k15
  have F16 := fun_mk (st := s_l_share_right) l16 c16 k16
  have F17 := fun_mk (st := s_l_all_right) l17 c17 k17
  have F18 := fun_mk (st := s_law) l18 c18 k18
  have b0 := F0.binds (ps := ["thing"]) fun _ _ _ _ _ _ us hl => match us, hl with | [_], _ => rfl
  have b1 := F1.binds (ps := ["one", "other"]) fun _ _ _ _ _ _ us hl => match us, hl with | [_, _], _ => rfl
  have b2 : Binds K _ ["top", "bottom"] [] := bindsAll (F := F2) (ps := ["top", "bottom"]) (fun T kV doc pm an cdv ct us its h1 h2 => match us, its, h1, h2 with | [_, _], [_], _, _ => ⟨_, rfl, rfl⟩) (fun z => nomatch z)
  have b3 := F3.binds (ps := ["one", "top", "bottom"]) fun _ _ _ _ _ _ us hl => match us, hl with | [_, _, _], _ => rfl
  have b4 := F4.binds (ps := ["one", "other"]) fun _ _ _ _ _ _ us hl => match us, hl with | [_, _], _ => rfl
  have b5 := F5.binds (ps := ["one", "other"]) fun _ _ _ _ _ _ us hl => match us, hl with | [_, _], _ => rfl
  have b6 := F6.binds (ps := ["one", "other"]) fun _ _ _ _ _ _ us hl => match us, hl with | [_, _], _ => rfl
  have b7 := F7.binds (ps := ["one", "other"]) fun _ _ _ _ _ _ us hl => match us, hl with | [_, _], _ => rfl
  have b8 := F8.binds (ps := ["_law_script", "_law_k"]) fun _ _ _ _ _ _ us hl => match us, hl with | [_, _], _ => rfl
  have b9 := F9.binds (ps := ["_law_state", "_law_base"]) fun _ _ _ _ _ _ us hl => match us, hl with | [_, _], _ => rfl
  have b10 := F10.binds (ps := ["_law_state", "_law_few"]) fun _ _ _ _ _ _ us hl => match us, hl with | [_, _], _ => rfl
  have b11 := F11.binds (ps := ["_law_left", "_law_right"]) fun _ _ _ _ _ _ us hl => match us, hl with | [_, _], _ => rfl
  have b12 := F12.binds (ps := ["_law_top", "_law_bottom"]) fun _ _ _ _ _ _ us hl => match us, hl with | [_, _], _ => rfl
  have b13 := F13.binds (ps := ["_law_state"]) fun _ _ _ _ _ _ us hl => match us, hl with | [_], _ => rfl
  have b14 := F14.binds (ps := ["_law_state", "_law_left"]) fun _ _ _ _ _ _ us hl => match us, hl with | [_, _], _ => rfl
  have b15 := F15.binds (ps := ["_law_found", "_law_top", "_law_bottom"]) fun _ _ _ _ _ _ us hl => match us, hl with | [_, _, _], _ => rfl
  have b16 := F16.binds (ps := ["_law_left", "_law_right"]) fun _ _ _ _ _ _ us hl => match us, hl with | [_, _], _ => rfl
  have b17 := F17.binds (ps := ["_law_left", "_law_right"]) fun _ _ _ _ _ _ us hl => match us, hl with | [_, _], _ => rfl
  have b18 := F18.binds (ps := ["_law_script"]) fun _ _ _ _ _ _ us hl => match us, hl with | [_], _ => rfl
  have kb_shared_one_other := kbAll (F := F7) (ps := ["one", "other"]) (n := 0) (ks := ["one", "other"]) (g := fun us ws => kg_shared_one_other us ws) (fun _ _ _ _ _ _ us ws h1 h2 => match us, ws, h1, h2 with | [], [_, _], _, _ => rfl) (fun ru r => by
    cases ru with
    | cons _ _ => exact .nil
    | nil =>
      cases r with
      | nil => exact .nil
      | cons w0 r =>
        cases r with
        | nil => exact .nil
        | cons w1 r =>
          cases r with
          | nil => exact .cons w0 (.cons w1 (.nil))
          | cons _ _ => exact .nil)
  have kb_minus_other_one := kbAll (F := F5) (ps := ["one", "other"]) (n := 0) (ks := ["other", "one"]) (g := fun us ws => kg_minus_other_one us ws) (fun _ _ _ _ _ _ us ws h1 h2 => match us, ws, h1, h2 with | [], [_, _], _, _ => rfl) (fun ru r => by
    cases ru with
    | cons _ _ => exact .nil
    | nil =>
      cases r with
      | nil => exact .nil
      | cons w0 r =>
        cases r with
        | nil => exact .nil
        | cons w1 r =>
          cases r with
          | nil => exact .cons w1 (.cons w0 (.nil))
          | cons _ _ => exact .nil)
  exact ⟨_, fun s v => .of_eq rfl, fun base _ _ => ok_law { a_is_number := _, d_is_number := _, F_is_number := F0, b_is_number := b0, g_is_number := PySem.W.mg_of X G a0, a_common_divisor := _, d_common_divisor := _, F_common_divisor := F1, b_common_divisor := b1, g_common_divisor := PySem.W.mg_of X G a1, a_fraction := _, d_fraction := _, F_fraction := F2, b_fraction := b2, g_fraction := PySem.W.mg_of X G a2, a_summed := _, d_summed := _, F_summed := F3, b_summed := b3, g_summed := PySem.W.mg_of X G a3, a_plus := _, d_plus := _, F_plus := F4, b_plus := b4, g_plus := PySem.W.mg_of X G a4, a_minus := _, d_minus := _, F_minus := F5, b_minus := b5, g_minus := PySem.W.mg_of X G a5, a_times := _, d_times := _, F_times := F6, b_times := b6, g_times := PySem.W.mg_of X G a6, a_shared := _, d_shared := _, F_shared := F7, b_shared := b7, g_shared := PySem.W.mg_of X G a7, a_l_cell_at := _, d_l_cell_at := _, F_l_cell_at := F8, b_l_cell_at := b8, g_l_cell_at := PySem.W.mg_of X G a8, a_l_digit := _, d_l_digit := _, F_l_digit := F9, b_l_digit := b9, g_l_digit := PySem.W.mg_of X G a9, a_l_great := _, d_l_great := _, F_l_great := F10, b_l_great := b10, g_l_great := PySem.W.mg_of X G a10, a_l_shared := _, d_l_shared := _, F_l_shared := F11, b_l_shared := b11, g_l_shared := PySem.W.mg_of X G a11, a_l_lowest := _, d_l_lowest := _, F_l_lowest := F12, b_l_lowest := b12, g_l_lowest := PySem.W.mg_of X G a12, a_l_drawn := _, d_l_drawn := _, F_l_drawn := F13, b_l_drawn := b13, g_l_drawn := PySem.W.mg_of X G a13, a_l_second := _, d_l_second := _, F_l_second := F14, b_l_second := b14, g_l_second := PySem.W.mg_of X G a14, a_l_alike := _, d_l_alike := _, F_l_alike := F15, b_l_alike := b15, g_l_alike := PySem.W.mg_of X G a15, a_l_share_right := _, d_l_share_right := _, F_l_share_right := F16, b_l_share_right := b16, g_l_share_right := PySem.W.mg_of X G a16, a_l_all_right := _, d_l_all_right := _, F_l_all_right := F17, b_l_all_right := b17, g_l_all_right := PySem.W.mg_of X G a17, a_law := _, d_law := _, F_law := F18, b_law := b18, g_law := PySem.W.mg_of X G a18, kb_shared_one_other := kb_shared_one_other, kb_minus_other_one := kb_minus_other_one, m_abs := PySem.W.mg_none_of X G z_abs, m_bool := PySem.W.mg_none_of X G z_bool, m_int := PySem.W.mg_none_of X G z_int, m_isinstance := PySem.W.mg_none_of X G z_isinstance, m_len := PySem.W.mg_none_of X G z_len, m_range := PySem.W.mg_none_of X G z_range, m_tuple := PySem.W.mg_none_of X G z_tuple, c_ScrollError := C_ScrollError, g_ScrollError := PySem.W.mg_of X G g_ScrollError, c_NoFraction := C_NoFraction, g_NoFraction := PySem.W.mg_of X G g_NoFraction, x_NoFraction := x_NoFraction, k_NoFraction := kc_NoFraction, bb_NoFraction := bb_NoFraction, t_NoFraction := t_NoFraction, xc_NoFraction := ⟨xa_NoFraction, xb_NoFraction, bb_NoFraction, xc_NoFraction, xd_NoFraction, xe_NoFraction, xf_NoFraction, xg_NoFraction⟩, em_NoFraction_ScrollError := exm_by bs_NoFraction_ScrollError is_NoFraction_ScrollError ts_NoFraction_ScrollError sb_NoFraction_ScrollError, io_NoFraction_NoFraction := io_NoFraction_NoFraction }⟩
end LK
open PySem PySem.W PyProof.Rows
set_option maxHeartbeats 0 in
theorem PySem.Challenge.cw_lanescroll_k02_sums_and_products_holds : PySem.Challenge.rw_lanescroll_k02_sums_and_products.Holds := by
  w_on; o_law; k_head; (case hw => w_witness2)
  k_fill
  refine L2.walk_of (l := PySem.Challenge.rw_lanescroll_k02_sums_and_products) (n := 63) (k := 6) (x := "_law_script") (CX := fun _ => L2.CX0) (sp := fun w => LK.spLaw _) rfl (by decide) rfl ⟨rfl, by decide, by decide⟩ (fun w h Y => PySem.W.kIn_of Y) ?F (fun _ _ a ns hl _ hS => ⟨a, ns, rfl, hS, hl, fun _ => rfl⟩) (fun _ _ _ _ _ h => h)
  case F =>
    intro w mg fa h KX G hmg
    refine' LK.all_mk KX G hmg ?a0 ?l0 ?c0 ?k0 ?a1 ?l1 ?c1 ?k1 ?a2 ?l2 ?c2 ?k2 ?e2 ?q2 ?a3 ?l3 ?c3 ?k3 ?a4 ?l4 ?c4 ?k4 ?a5 ?l5 ?c5 ?k5 ?a6 ?l6 ?c6 ?k6 ?a7 ?l7 ?c7 ?k7 ?a8 ?l8 ?c8 ?k8 ?a9 ?l9 ?c9 ?k9 ?a10 ?l10 ?c10 ?k10 ?a11 ?l11 ?c11 ?k11 ?a12 ?l12 ?c12 ?k12 ?a13 ?l13 ?c13 ?k13 ?a14 ?l14 ?c14 ?k14 ?a15 ?l15 ?c15 ?k15 ?a16 ?l16 ?c16 ?k16 ?a17 ?l17 ?c17 ?k17 ?a18 ?l18 ?c18 ?k18 ?z_abs ?z_bool ?z_int ?z_isinstance ?z_len ?z_range ?z_tuple ?g_ScrollError ?g_NoFraction ?x_NoFraction ?kc_NoFraction ?bb_NoFraction ?t_NoFraction ?xa_NoFraction ?xb_NoFraction ?xc_NoFraction ?xd_NoFraction ?xe_NoFraction ?xf_NoFraction ?xg_NoFraction ?sb_NoFraction_ScrollError ?bs_NoFraction_ScrollError ?ts_NoFraction_ScrollError ?is_NoFraction_ScrollError ?io_NoFraction_NoFraction
    (case a0 => k_is)
    (case l0 => k_is)
    (case c0 => k_is)
    (case k0 => k_is)
    (case a1 => k_is)
    (case l1 => k_is)
    (case c1 => k_is)
    (case k1 => k_is)
    (case a2 => k_is)
    (case l2 => k_is)
    (case c2 => k_is)
    (case k2 => k_is)
    (case e2 => k_is)
    (case q2 => first | rfl | k_is | k_exc)
    (case a3 => k_is)
    (case l3 => k_is)
    (case c3 => k_is)
    (case k3 => k_is)
    (case a4 => k_is)
    (case l4 => k_is)
    (case c4 => k_is)
    (case k4 => k_is)
    (case a5 => k_is)
    (case l5 => k_is)
    (case c5 => k_is)
    (case k5 => k_is)
    (case a6 => k_is)
    (case l6 => k_is)
    (case c6 => k_is)
    (case k6 => k_is)
    (case a7 => k_is)
    (case l7 => k_is)
    (case c7 => k_is)
    (case k7 => k_is)
    (case a8 => k_is)
    (case l8 => k_is)
    (case c8 => k_is)
    (case k8 => k_is)
    (case a9 => k_is)
    (case l9 => k_is)
    (case c9 => k_is)
    (case k9 => k_is)
    (case a10 => k_is)
    (case l10 => k_is)
    (case c10 => k_is)
    (case k10 => k_is)
    (case a11 => k_is)
    (case l11 => k_is)
    (case c11 => k_is)
    (case k11 => k_is)
    (case a12 => k_is)
    (case l12 => k_is)
    (case c12 => k_is)
    (case k12 => k_is)
    (case a13 => k_is)
    (case l13 => k_is)
    (case c13 => k_is)
    (case k13 => k_is)
    (case a14 => k_is)
    (case l14 => k_is)
    (case c14 => k_is)
    (case k14 => k_is)
    (case a15 => k_is)
    (case l15 => k_is)
    (case c15 => k_is)
    (case k15 => k_is)
    (case a16 => k_is)
    (case l16 => k_is)
    (case c16 => k_is)
    (case k16 => k_is)
    (case a17 => k_is)
    (case l17 => k_is)
    (case c17 => k_is)
    (case k17 => k_is)
    (case a18 => k_is)
    (case l18 => k_is)
    (case c18 => k_is)
    (case k18 => k_is)
    (case z_abs => k_is)
    (case z_bool => k_is)
    (case z_int => k_is)
    (case z_isinstance => k_is)
    (case z_len => k_is)
    (case z_range => k_is)
    (case z_tuple => k_is)
    (case g_ScrollError => k_is)
    (case g_NoFraction => k_is)
    (case x_NoFraction => k_exc)
    (case kc_NoFraction => k_is)
    (case bb_NoFraction => k_is)
    (case t_NoFraction => k_is)
    (case xa_NoFraction => k_is)
    (case xb_NoFraction => k_is)
    (case xc_NoFraction => k_is)
    (case xd_NoFraction => k_is)
    (case xe_NoFraction => k_is)
    (case xf_NoFraction => k_is)
    (case xg_NoFraction => k_is)
    (case sb_NoFraction_ScrollError => first | rfl | k_is | k_exc)
    (case bs_NoFraction_ScrollError => k_is)
    (case ts_NoFraction_ScrollError => k_is)
    (case is_NoFraction_ScrollError => k_is)
    (case io_NoFraction_NoFraction => first | rfl | k_is | k_exc)
