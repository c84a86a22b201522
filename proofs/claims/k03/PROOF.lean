import PyProof.Rows.All
import Wide.All
import OpenK.AllK
import Wide.FinOn
import PySem.Challenge.RW_lanescroll_k03_what_is_none
import HandS.ForMost
import HandS.IsInst
import HandS.TupLe
import HandS.Wide
import HandS.Defaults
set_option Elab.async false
set_option linter.all false
set_option maxRecDepth 100000
set_option maxHeartbeats 4000000
namespace LK
open PySem PySem.Spec PyProof.Rows L2
def topS (i : Nat) : Stmt := PySem.Challenge.pw_lanescroll_k03_what_is_none.main.body.getD i (.Pass ⟨0, 0, 0, 0⟩)
abbrev s_is_number : Stmt := topS 1
abbrev N_is_number : List Str := ["thing"]
theorem sc_is_number : FnScope N_is_number ["thing"] (defScope s_is_number) := ⟨rfl, rfl, rfl, by decide +kernel, rfl, by decide +kernel, by decide +kernel⟩
abbrev s_is_whole : Stmt := topS 2
abbrev N_is_whole : List Str := ["thing", "low", "high"]
theorem sc_is_whole : FnScope N_is_whole ["thing", "low", "high"] (defScope s_is_whole) := ⟨rfl, rfl, rfl, by decide +kernel, rfl, by decide +kernel, by decide +kernel⟩
abbrev s_is_bytes : Stmt := topS 3
abbrev N_is_bytes : List Str := ["thing", "byte"]
theorem sc_is_bytes : FnScope N_is_bytes ["thing"] (defScope s_is_bytes) := ⟨rfl, rfl, rfl, by decide +kernel, rfl, by decide +kernel, by decide +kernel⟩
abbrev s_l_cell_at : Stmt := topS 5
abbrev N_l_cell_at : List Str := ["_law_script", "_law_k"]
theorem sc_l_cell_at : FnScope N_l_cell_at ["_law_script", "_law_k"] (defScope s_l_cell_at) := ⟨rfl, rfl, rfl, by decide +kernel, rfl, by decide +kernel, by decide +kernel⟩
abbrev s_l_digit : Stmt := topS 6
abbrev N_l_digit : List Str := ["_law_state", "_law_base", "_law_found", "_law_number"]
theorem sc_l_digit : FnScope N_l_digit ["_law_state", "_law_base"] (defScope s_l_digit) := ⟨rfl, rfl, rfl, by decide +kernel, rfl, by decide +kernel, by decide +kernel⟩
abbrev s_l_truth : Stmt := topS 7
abbrev N_l_truth : List Str := ["_law_found", "_law_due"]
theorem sc_l_truth : FnScope N_l_truth ["_law_found", "_law_due"] (defScope s_l_truth) := ⟨rfl, rfl, rfl, by decide +kernel, rfl, by decide +kernel, by decide +kernel⟩
abbrev s_l_great : Stmt := topS 8
abbrev N_l_great : List Str := ["_law_state", "_law_number", "_law_k"]
theorem sc_l_great : FnScope N_l_great ["_law_state"] (defScope s_l_great) := ⟨rfl, rfl, rfl, by decide +kernel, rfl, by decide +kernel, by decide +kernel⟩
abbrev s_l_whole_right : Stmt := topS 9
abbrev N_l_whole_right : List Str := ["_law_state", "_law_under", "_law_above", "_law_near", "_law_what", "_law_some", "_law_odd"]
theorem sc_l_whole_right : FnScope N_l_whole_right ["_law_state"] (defScope s_l_whole_right) := ⟨rfl, rfl, rfl, by decide +kernel, rfl, by decide +kernel, by decide +kernel⟩
abbrev s_l_row : Stmt := topS 10
abbrev N_l_row : List Str := ["_law_state", "_law_many", "_law_k"]
theorem sc_l_row : FnScope N_l_row ["_law_state"] (defScope s_l_row) := ⟨rfl, rfl, rfl, by decide +kernel, rfl, by decide +kernel, by decide +kernel⟩
abbrev s_l_rows_right : Stmt := topS 11
abbrev N_l_rows_right : List Str := ["_law_state", "_law_row_here", "_law_held", "_law_odd", "_law_what", "_law_at", "_law_spoilt", "_law_bad", "_law_good", "_law_k"]
theorem sc_l_rows_right : FnScope N_l_rows_right ["_law_state"] (defScope s_l_rows_right) := ⟨rfl, rfl, rfl, by decide +kernel, rfl, by decide +kernel, by decide +kernel⟩
abbrev s_law : Stmt := topS 12
abbrev N_law : List Str := ["_law_script", "_law_state", "_law_cell"]
theorem sc_law : FnScope N_law ["_law_script"] (defScope s_law) := ⟨rfl, rfl, rfl, by decide +kernel, rfl, by decide +kernel, by decide +kernel⟩
def kg_is_whole_thing_low_high {α : Type} : List α → List α → List α
  | [], [w0, w1, w2] => [w0, w1, w2]
  | _, _ => []
structure Txt (K : PySem.W.Frag) (mg : Str → Option Value) : Type where
  a_is_number : Addr
  d_is_number : FuncData
  F_is_number : Fun K "is_number" "is_number" s_is_number a_is_number d_is_number
  g_is_number : mg "is_number" = some (.ref a_is_number)
  b_is_number : Binds K d_is_number ["thing"] []
  a_is_whole : Addr
  d_is_whole : FuncData
  F_is_whole : Fun K "is_whole" "is_whole" s_is_whole a_is_whole d_is_whole
  g_is_whole : mg "is_whole" = some (.ref a_is_whole)
  b_is_whole : Binds K d_is_whole ["thing", "low", "high"] []
  a_is_bytes : Addr
  d_is_bytes : FuncData
  F_is_bytes : Fun K "is_bytes" "is_bytes" s_is_bytes a_is_bytes d_is_bytes
  g_is_bytes : mg "is_bytes" = some (.ref a_is_bytes)
  b_is_bytes : Binds K d_is_bytes ["thing"] []
  a_l_cell_at : Addr
  d_l_cell_at : FuncData
  F_l_cell_at : Fun K "_law_cell_at" "_law_cell_at" s_l_cell_at a_l_cell_at d_l_cell_at
  g_l_cell_at : mg "_law_cell_at" = some (.ref a_l_cell_at)
  b_l_cell_at : Binds K d_l_cell_at ["_law_script", "_law_k"] []
  a_l_digit : Addr
  d_l_digit : FuncData
  F_l_digit : Fun K "_law_digit" "_law_digit" s_l_digit a_l_digit d_l_digit
  g_l_digit : mg "_law_digit" = some (.ref a_l_digit)
  b_l_digit : Binds K d_l_digit ["_law_state", "_law_base"] []
  a_l_truth : Addr
  d_l_truth : FuncData
  F_l_truth : Fun K "_law_truth" "_law_truth" s_l_truth a_l_truth d_l_truth
  g_l_truth : mg "_law_truth" = some (.ref a_l_truth)
  b_l_truth : Binds K d_l_truth ["_law_found", "_law_due"] []
  a_l_great : Addr
  d_l_great : FuncData
  F_l_great : Fun K "_law_great" "_law_great" s_l_great a_l_great d_l_great
  g_l_great : mg "_law_great" = some (.ref a_l_great)
  b_l_great : Binds K d_l_great ["_law_state"] []
  a_l_whole_right : Addr
  d_l_whole_right : FuncData
  F_l_whole_right : Fun K "_law_whole_right" "_law_whole_right" s_l_whole_right a_l_whole_right d_l_whole_right
  g_l_whole_right : mg "_law_whole_right" = some (.ref a_l_whole_right)
  b_l_whole_right : Binds K d_l_whole_right ["_law_state"] []
  a_l_row : Addr
  d_l_row : FuncData
  F_l_row : Fun K "_law_row" "_law_row" s_l_row a_l_row d_l_row
  g_l_row : mg "_law_row" = some (.ref a_l_row)
  b_l_row : Binds K d_l_row ["_law_state"] []
  a_l_rows_right : Addr
  d_l_rows_right : FuncData
  F_l_rows_right : Fun K "_law_rows_right" "_law_rows_right" s_l_rows_right a_l_rows_right d_l_rows_right
  g_l_rows_right : mg "_law_rows_right" = some (.ref a_l_rows_right)
  b_l_rows_right : Binds K d_l_rows_right ["_law_state"] []
  a_law : Addr
  d_law : FuncData
  F_law : Fun K "law" "law" s_law a_law d_law
  g_law : mg "law" = some (.ref a_law)
  b_law : Binds K d_law ["_law_script"] []
  kb_is_whole_thing_low_high : KBn K d_is_whole ["thing", "low", "high"] 0 ["thing", "low", "high"] (fun us ws => kg_is_whole_thing_low_high us ws) (fun us ws => kg_is_whole_thing_low_high us ws)
  m_abs : mg "abs" = none
  m_bool : mg "bool" = none
  m_dict : mg "dict" = none
  m_int : mg "int" = none
  m_isinstance : mg "isinstance" = none
  m_len : mg "len" = none
  m_list : mg "list" = none
  m_range : mg "range" = none
  m_str : mg "str" = none
  m_tuple : mg "tuple" = none
/-! ### heaps -/
/-- all but what stands at p is as it was -/
def Frm (p : Addr) (H H' : Hp) : Prop := ∀ b o, b ≠ p → H b = some o → H' b = some o
theorem Frm.get {p q : Addr} {H H' : Hp} {o : HO} (f : Frm p H H') (n : q ≠ p) (h : H q = some o) : H' q = some o := f q o n h
theorem Frm.refl {p : Addr} {H : Hp} : Frm p H H := fun _ _ _ h => h
theorem Frm.trans {p : Addr} {H H1 H2 : Hp} (a : Frm p H H1) (b : Frm p H1 H2) : Frm p H H2 := fun c o n h => b c o n (a c o n h)
theorem Frm.upd {p : Addr} {H : Hp} {o : HO} : Frm p H (upd H p o) := fun c u n h => by rw [upd_ne n]; exact h
theorem upd_old {H : Hp} {a q : Addr} {o o' : HO} (na : H a = none) (h : H q = some o) : upd H a o' q = some o := by
  rw [upd_ne (ne_of_none h na)]; exact h
theorem upd_oth {H : Hp} {a q : Addr} {o o' : HO} (na : q ≠ a) (h : H q = some o) : upd H a o' q = some o := by
  rw [upd_ne na]; exact h
theorem Frm.new {p a : Addr} {H H' : Hp} {o : HO} (f : Frm p H H') (na : H' a = none) : Frm p H (L2.upd H' a o) := fun c u n h => upd_old na (f c u n h)
theorem Frm.upd2 {p : Addr} {H H' : Hp} {o : HO} (f : Frm p H H') : Frm p H (L2.upd H' p o) := f.trans .upd
theorem Frm.own {p a : Addr} {H H' : Hp} {o : HO} (f : Frm p H H') (na : H a = none) : Frm p H (L2.upd H' a o) := fun c u n h => upd_oth (ne_of_none h na) (f c u n h)
theorem Frm.new2 {p a : Addr} {H H' : Hp} {o o2 : HO} (f : Frm p H H') (na : H' a = none) : Frm p H (L2.upd (L2.upd H' a o2) a o) := by rw [upd_upd]; exact f.new na
theorem upd_old2 {H : Hp} {a q : Addr} {o o' o2 : HO} (na : H a = none) (h : H q = some o) : upd (upd H a o2) a o' q = some o := by rw [upd_upd]; exact upd_old na h
theorem new_ne {H : Hp} {a q : Addr} {o : HO} (na : H a = none) (h : H q = some o) : a ≠ q := fun e => by subst e; rw [na] at h; cases h
theorem Same.get {q : Addr} {H H' : Hp} {o : HO} (f : Same H H') (h : H q = some o) : H' q = some o := f q o h
theorem Same.new {a : Addr} {H H' : Hp} {o : HO} (f : Same H H') (na : H' a = none) : Same H (L2.upd H' a o) := fun c u h => upd_old na (f c u h)
theorem Same.new2 {a : Addr} {H H' : Hp} {o o2 : HO} (f : Same H H') (na : H' a = none) : Same H (L2.upd (L2.upd H' a o2) a o) := by rw [upd_upd]; exact Same.new f na
theorem Same.own {a : Addr} {H H' : Hp} {o : HO} (f : Same H H') (na : H a = none) : Same H (L2.upd H' a o) := fun c u h => upd_oth (ne_of_none h na) (f c u h)
theorem Same.frm {p : Addr} {H H' : Hp} (f : Same H H') : Frm p H H' := fun c u _ h => f c u h
/-- what is new to an elder heap and stands apart is no matter -/
theorem Frm.same {p : Addr} {H H' : Hp} (f : Frm p H H') (n : H p = none) : Same H H' := fun c u h => f c u (ne_of_none h n) h
/-! ### sizes, ifs -/
theorem sz {n : Nat} (h : Nat.ble n 1000 = true) : n ≤ sizeLine := Nat.le_trans (Nat.le_of_ble_eq_true h) (by decide)
theorem szl {n : Nat} (h : Nat.ble n 1000 = true) : n < sizeLine := Nat.lt_of_le_of_lt (Nat.le_of_ble_eq_true h) (by decide)
theorem szn {n : Nat} (h : n ≤ 1000) : n ≤ sizeLine := Nat.le_trans h (by decide)
theorem sznl {n : Nat} (h : n ≤ 1000) : n < sizeLine := Nat.lt_of_le_of_lt h (by decide)
theorem ifT {c : Bool} {A B : Prop} (h : c = true) (a : A) : if c = true then A else B := by rw [if_pos h]; exact a
theorem ifF {c : Bool} {A B : Prop} (h : c = false) (b : B) : if c = true then A else B := by rw [h, if_neg Bool.false_ne_true]; exact b
theorem ifC {c : Bool} {A B : Prop} (a : c = true → A) (b : c = false → B) : if c = true then A else B := by
  cases c with
  | true => exact ifT rfl (a rfl)
  | false => exact ifF rfl (b rfl)
theorem ifAnd {k1 k2 : Bool} {A : Prop} {Q : VK} {H : Hp} (a : Q (.bl k2) H → A) (h : Q (.bl (k1 && k2)) H) : if k1 = true then A else Q (.bl false) H := by
  cases k1 with
  | true => exact ifT rfl (a h)
  | false => exact ifF rfl h
/-! ### items at a drawn place -/
theorem at_nn {α : Type} {xs : List α} {d : Int} (h0 : 0 ≤ d) (h1 : d < xs.length) : ∃ v, atI xs d = some v ∧ v ∈ xs ∧ xs[d.toNat]? = some v := by
  have h2 : d.toNat < xs.length := by omega
  have e : (d.toNat : Int) = d := by omega
  have k := atI_nat (List.getElem?_eq_getElem h2)
  rw [e] at k
  exact ⟨xs[d.toNat], k, List.getElem_mem h2, List.getElem?_eq_getElem h2⟩
theorem ixP {K : PySem.W.Frag} {H : Hp} {Q : VK} {p : Addr} {xs : List V} {d : Int} (R : V → Prop) (hp : SqL K H p xs) (h0 : 0 ≤ d) (h1 : d < xs.length) (all : ∀ v ∈ xs, R v) (k : ∀ v, R v → Q v H) : rIxL K (.ref p) (.int d) H Q := by
  obtain ⟨v, e, m, _⟩ := at_nn h0 h1
  exact ⟨_, _, _, _, rfl, rfl, hp, e, k v (all v m)⟩
theorem ixG {K : PySem.W.Frag} {H : Hp} {Q : VK} {p : Addr} {xs : List V} {d : Int} (hp : SqL K H p xs) (h0 : 0 ≤ d) (h1 : d < xs.length) (k : ∀ v, xs[d.toNat]? = some v → Q v H) : rIxL K (.ref p) (.int d) H Q := by
  obtain ⟨v, e, _, m⟩ := at_nn h0 h1
  exact ⟨_, _, _, _, rfl, rfl, hp, e, k v m⟩
def isI : V → Bool
  | .int _ => true
  | _ => false
theorem ixI {K : PySem.W.Frag} {H : Hp} {Q : VK} {p : Addr} {xs : List V} {d : Int} (hp : SqL K H p xs) (h0 : 0 ≤ d) (h1 : d < xs.length) (all : xs.all isI = true) (k : ∀ i, V.int i ∈ xs → Q (.int i) H) : rIxL K (.ref p) (.int d) H Q := by
  refine ixP (fun v => (∃ i, v = .int i) ∧ v ∈ xs) hp h0 h1 (fun v hv => ⟨?_, hv⟩) (fun v ⟨⟨i, e⟩, m⟩ => ?_)
  · have := List.all_eq_true.mp all v hv
    cases v <;> first | exact ⟨_, rfl⟩ | cases this
  · subst e; exact k i m
/-! ### a call with keywords alone -/
section
variable {X : Cx} {CX : CXT} {k : Nat} {f : Addr} {fd : FuncData} {ps ks : List Str} {sp : Sp} {E : XK} {x : Str} {p pos : Pos} {kws : List Keyword} {tk : TA} {g : List Value → List Value → List Value} {gV : List V → List V → List V}
theorem pe_callN0 (F : FnOk X.prog X.w X.K X.mg X.base CX k f fd ps sp) (hr : Room k X.A) (hg : Gl X x) (hm : X.mg x = some (.ref f)) (hk : PySem.W.keepIn X.K (.ref f) = true) (hb : KBn X.K fd ps 0 ks g gV) (hx : Passes CX X E)
    (hkw : PK X kws tk) (hall : (backToKw pos (keywordEach kws X.env)).all (·.1.isSome) = true := by rfl) (hks : (backToKw pos (keywordEach kws X.env)).filterMap (·.1) = ks := by rfl)
    (hdb : (x == ("__debug__" : Str)) = false := by decide)
    (hpl : ((backTo pos (starEach [] X.env)).any (·.1) || (backToKw pos (keywordEach kws X.env)).any (·.1.isNone)) = false := by rfl) :
    PE X (.Call (.Name x p) [] kws pos) (tCallN 0 ks.length sp gV E tNil tk) := by
  refine ⟨fun pins s σ H Q I h => ?_⟩
  refine wpAny_Call_Name_kw (ld_glob I hg hm ?_ hdb)
  refine PySem.W.callWith_KW0 (h₀ := X.base) I.ok.mod.kin hk hall (thn (hkw.run pos pins s σ H _ I h) fun ws s2 ⟨zs, H2, I2, rz, l1, l2, q2⟩ => ⟨I2.kIn, ?_⟩) hpl
  rw [hks]
  exact run_fnN F hr hb hx I2 .nil rz rfl l2 q2
end
section
variable {K : PySem.W.Frag} {x qual : Str} {st : Stmt} {f : Addr} {fd : FuncData} {ps ks : List Str} {n : Nat}
theorem kbAll {F : Fun K x qual st f fd} {g : {α : Type} → List α → List α → List α} (h : ∀ (kV doc pm : Value) (an : Option Addr) (cdv ct : Value) (us ws : List Value), us.length = n → ws.length = ks.length →
    bindArgs (PySem.W.fnOf x qual (defArgs st) (defBody st) (defScope st) .none kV doc pm an cdv ct) ⟨us, ks.zip ws⟩ = pure (ps.zip (g us ws)))
    (hrel : ∀ {vs : List V} {us : List Value} {zs : List V} {ws : List Value}, Vals vs us → Vals zs ws → Vals (g vs zs) (g us ws)) : KBn K fd ps n ks (fun us ws => g us ws) (fun us ws => g us ws) := by
  obtain ⟨oc, od, kV, doc, pm, an, cdv, ct, osl, rfl, lk, hcd⟩ := F.ex
  exact ⟨fun s us ws _ h1 h2 => .of_eq (h kV doc pm an cdv ct us ws h1 h2), fun r1 r2 => hrel r1 r2⟩
variable {params : Arguments} {body : List Stmt} {scope : Scope} {dvs : List V}
theorem bindsAll {F : FunD K x qual params body scope dvs [] f fd}
    (h : ∀ (T : Addr) (kV doc pm : Value) (an : Option Addr) (cdv ct : Value) (us its : List Value), us.length = ps.length → its.length = dvs.length →
      ∃ k, bindArgs (PySem.W.fnOf x qual params body scope (.ref T) kV doc pm an cdv ct) ⟨us, []⟩ = seqItems? (.ref T) >>= k ∧ k (some its.toArray) = pure (ps.zip us)) (hd : dvs ≠ []) : Binds K fd ps [] := by
  obtain ⟨ds, hv, hb⟩ := F.binds1 (ps := ps) ps.length dvs.length hd (by omega) (fun T kV doc pm an cdv ct us its h1 h2 => by
    obtain ⟨k, e1, e2⟩ := h T kV doc pm an cdv ct us its h1 h2
    refine ⟨k, e1, ?_⟩
    rw [e2, ← h2, List.drop_length, List.append_nil])
  rw [List.drop_length] at hv
  cases hv
  exact hb
theorem kbAllD {F : FunD K x qual params body scope dvs [] f fd} {g : {α : Type} → List α → List α → List α}
    (h : ∀ (T : Addr) (kV doc pm : Value) (an : Option Addr) (cdv ct : Value) (us its ws : List Value), us.length = n → its.length = dvs.length → ws.length = ks.length →
      ∃ k, bindArgs (PySem.W.fnOf x qual params body scope (.ref T) kV doc pm an cdv ct) ⟨us, ks.zip ws⟩ = seqItems? (.ref T) >>= k ∧ k (some its.toArray) = pure (ps.zip (g us ws))) (hd : dvs ≠ [])
    (hrel : ∀ {vs : List V} {us : List Value} {zs : List V} {ws : List Value}, Vals vs us → Vals zs ws → Vals (g vs zs) (g us ws)) : KBn K fd ps n ks (fun us ws => g us ws) (fun us ws => g us ws) := by
  obtain ⟨oc, od, dV, kV, doc, pm, an, cdv, ct, osl, rfl, lk, hcd, hD, hK⟩ := F.ex
  rcases hD with ⟨e, _⟩ | ⟨_, T, o, its, m, rfl, lT, oT, rT⟩
  · exact absurd e hd
  · refine ⟨fun s us ws X l1 l2 => ?_, fun r1 r2 => hrel r1 r2⟩
    obtain ⟨k, e1, e2⟩ := h T kV doc pm an cdv ct us its ws l1 rT.length.symm l2
    refine BindsTo.of_looks fun M => ?_
    rw [e1]
    exact looks_items X lT oT (.of_pure e2)
theorem exm_by {K : PySem.W.Frag} {C S : Addr} (h1 : PySem.W.subIn K (.ref S) (.type "BaseException") = some true) (h2 : PySem.W.isClsIn K S = true) (h3 : PySem.W.typeIn K (.ref S) = some (.type "type")) (h4 : PySem.W.subIn K (.ref C) (.ref S) = some true) :
    PySem.W.exmOne K (.ref C) (.ref S) = some true := by
  have e1 : (PySem.W.subIn K (.ref S) (.type "BaseException") == some true) = true := by rw [h1] <;> rfl
  have e2 : ((PySem.W.clsIn K S).isSome && PySem.W.typeIn K (.ref S) == some (.type "type")) = true := by
    have h2' : (PySem.W.clsIn K S).isSome = true := h2
    rw [h2', h3] <;> rfl
  show (if (PySem.W.subIn K (.ref S) (.type "BaseException") == some true) = true then (if ((PySem.W.clsIn K S).isSome && PySem.W.typeIn K (.ref S) == some (.type "type")) = true then PySem.W.subIn K (.ref C) (.ref S) else none) else none) = some true
  rw [if_pos e1, if_pos e2]
  exact h4
end
/-! ### a < b < c of whole numbers, as one answer -/
def MonoE (t : TE) : Prop := ∀ (σ : L2.St) (H : Hp) (Q Q' : VK), (∀ v H', Q v H' → Q' v H') → t σ H Q → t σ H Q'
theorem mn_var {i : Nat} : MonoE (tVar i) := fun _ _ _ _ k ⟨v, e, q⟩ => ⟨v, e, k _ _ q⟩
theorem mn_c {v : V} : MonoE (tC v) := fun _ _ _ _ k q => k _ _ q
theorem mn_I0 {g : Int → Int → V} {ta tb : TE} (a : MonoE ta) (b : MonoE tb) : MonoE (tOp (rI0 g) ta tb) := fun σ H Q Q' k h =>
  a σ H _ _ (fun _ H1 h1 => b σ H1 _ _ (fun _ _ ⟨i, j, e1, e2, q⟩ => ⟨i, j, e1, e2, k _ _ q⟩) h1) h
theorem mn_I {C : Int → Int → Prop} {g : Int → Int → V} {ta tb : TE} (a : MonoE ta) (b : MonoE tb) : MonoE (tOp (rI C g) ta tb) := fun σ H Q Q' k h =>
  a σ H _ _ (fun _ H1 h1 => b σ H1 _ _ (fun _ _ ⟨i, j, e1, e2, c, q⟩ => ⟨i, j, e1, e2, c, k _ _ q⟩) h1) h
theorem mn_ixL {K : PySem.W.Frag} {ta tb : TE} (a : MonoE ta) (b : MonoE tb) : MonoE (tOp (rIxL K) ta tb) := fun σ H Q Q' k h =>
  a σ H _ _ (fun _ H1 h1 => b σ H1 _ _ (fun _ _ ⟨p, xs, i, v, e1, e2, s, e, q⟩ => ⟨p, xs, i, v, e1, e2, s, e, k _ _ q⟩) h1) h
theorem mn_ixT {K : PySem.W.Frag} {ta tb : TE} (a : MonoE ta) (b : MonoE tb) : MonoE (tOp (rIxT K) ta tb) := fun σ H Q Q' k h =>
  a σ H _ _ (fun _ H1 h1 => b σ H1 _ _ (fun _ _ ⟨p, xs, i, v, e1, e2, s, e, q⟩ => ⟨p, xs, i, v, e1, e2, s, e, k _ _ q⟩) h1) h
theorem mn_len {r : List V → Hp → VK → Prop} {ta : TE} (a : MonoE ta) (hr : ∀ vs H (Q Q' : VK), (∀ v H', Q v H' → Q' v H') → r vs H Q → r vs H Q') : MonoE (tCB r (tCons ta tNil)) := fun σ H Q Q' k h =>
  a σ H _ _ (fun _ H1 h1 => hr _ _ _ _ k h1) h
def tChI (g g' : Int → Int → Bool) (ta tb tc : TE) : TE := fun σ H Q => ta σ H fun x H1 => tb σ H1 fun y H2 => tc σ H2 fun z H3 => ∃ i j l : Int, x = .int i ∧ y = .int j ∧ z = .int l ∧ H3 = H2 ∧ Q (.bl (g i j && g' j l)) H2
/-- what c's reading tells is told at once: c changes nothing -/
theorem tChI_to {g g' : Int → Int → Bool} {ta tb tc : TE} (ma : MonoE ta) (mb : MonoE tb) (mc : MonoE tc) {σ : L2.St} {H : Hp} {Q : VK} (cx : ∀ (σ : L2.St) (H : Hp) (Q : V → Hp → Prop), tc σ H Q → ∃ v H', Q v H') (h : tChI g g' ta tb tc σ H Q) :
    tChain (rI0 fun i j => .bl (g i j)) (rI0 fun i j => .bl (g' i j)) ta tb tc σ H Q := by
  refine ma σ H _ _ (fun x H1 h1 => mb σ H1 _ _ (fun y H2 h2 => ?_) h1) h
  obtain ⟨_, _, i, j, l, ex, ey, _, _, q⟩ := cx _ _ _ h2
  refine ⟨i, j, ex, ey, _, rfl, ?_⟩
  cases e : g i j with
  | true =>
    refine ifT rfl (mc σ H2 _ _ (fun z H3 h3 => ?_) h2)
    obtain ⟨i', j', l', ex', ey', ez, e3, q'⟩ := h3
    have e1 : i' = i := V.int.inj (ex'.symm.trans ex)
    have e2 : j' = j := V.int.inj (ey'.symm.trans ey)
    subst e1 e2 ez e3
    rw [e, Bool.true_and] at q'
    exact ⟨j', l', ey, rfl, q'⟩
  | false =>
    rw [e, Bool.false_and] at q
    exact ifF rfl q
def ShowsE (t : TE) : Prop := ∀ (σ : L2.St) (H : Hp) (Q : V → Hp → Prop), t σ H Q → ∃ v H', Q v H'
theorem sh_var {i : Nat} : ShowsE (tVar i) := fun _ _ _ ⟨v, _, q⟩ => ⟨v, _, q⟩
theorem sh_c {v : V} : ShowsE (tC v) := fun _ _ _ q => ⟨_, _, q⟩
theorem sh_I0 {g : Int → Int → V} {ta tb : TE} (a : ShowsE ta) (b : ShowsE tb) : ShowsE (tOp (rI0 g) ta tb) := fun σ H Q h => by
  obtain ⟨x, H1, h1⟩ := a _ _ _ h
  obtain ⟨y, H2, h2⟩ := b _ _ _ h1
  obtain ⟨i, j, _, _, q⟩ := h2
  exact ⟨_, _, q⟩
theorem sh_I {C : Int → Int → Prop} {g : Int → Int → V} {ta tb : TE} (a : ShowsE ta) (b : ShowsE tb) : ShowsE (tOp (rI C g) ta tb) := fun σ H Q h => by
  obtain ⟨x, H1, h1⟩ := a _ _ _ h
  obtain ⟨y, H2, h2⟩ := b _ _ _ h1
  obtain ⟨i, j, _, _, _, q⟩ := h2
  exact ⟨_, _, q⟩
theorem sh_ixL {K : PySem.W.Frag} {ta tb : TE} (a : ShowsE ta) (b : ShowsE tb) : ShowsE (tOp (rIxL K) ta tb) := fun σ H Q h => by
  obtain ⟨x, H1, h1⟩ := a _ _ _ h
  obtain ⟨y, H2, h2⟩ := b _ _ _ h1
  obtain ⟨_, _, _, _, _, _, _, _, q⟩ := h2
  exact ⟨_, _, q⟩
theorem sh_ixT {K : PySem.W.Frag} {ta tb : TE} (a : ShowsE ta) (b : ShowsE tb) : ShowsE (tOp (rIxT K) ta tb) := fun σ H Q h => by
  obtain ⟨x, H1, h1⟩ := a _ _ _ h
  obtain ⟨y, H2, h2⟩ := b _ _ _ h1
  obtain ⟨_, _, _, _, _, _, _, _, q⟩ := h2
  exact ⟨_, _, q⟩
theorem PE.weak {X : Cx} {e : Expr} {t t' : TE} (h : PE X e t) (w : ∀ σ H Q, t' σ H Q → t σ H Q) : PE X e t' := ⟨fun pins s σ H Q I q => h.run pins s σ H Q I (w _ _ _ q)⟩
theorem pe_chainI {X : Cx} {op op' : CmpOp} {g g' : Int → Int → Bool} {a b c : Expr} {ta tb tc : TE} {pos : Pos} (ho : OpR X (compareOp op) (rI0 fun i j => .bl (g i j))) (ho' : OpR X (compareOp op') (rI0 fun i j => .bl (g' i j)))
    (ha : PE X a ta) (hb : PE X b tb) (hc : PE X c tc) (ma : MonoE ta) (mb : MonoE tb) (mc : MonoE tc) (sc : ShowsE tc) (hm : lastMarks [op, op'] [b, c] = false := by rfl) : PE X (.Compare a [op, op'] [b, c] pos) (tChI g g' ta tb tc) :=
  PE.weak (pe_chain ho ho' ha hb hc hm) (fun _ _ _ h => tChI_to ma mb mc sc h)
/-! ### rules within a comprehension: the written part by its own name -/
section
variable {X : Cx} {K : PySem.W.Frag}
theorem ix_listK (h : X.K = K) : IxR X (rIxL K) := h ▸ ix_list
theorem ix_tupK (h : X.K = K) : IxR X (rIxT K) := h ▸ ix_tup
theorem sl_listK (h : X.K = K) : SlR X (rSlL K) := h ▸ sl_list
theorem call_len_seqK (h : X.K = K) : CallR X (.builtin "len") (fun xs H Q => ∃ p ys, xs = [.ref p] ∧ (SqL K H p ys ∨ SqT K H p ys) ∧ Q (.int ys.length) H) := h ▸ call_len_seq
end
/-! ### comprehensions and loops whose invariants speak of the heap at their begin -/
theorem lcL {K : PySem.W.Frag} {a : Addr} {xs : List V} {g : TG} {tt : TT} {te : TE} {vs : List Nat} {σ : L2.St} {H1 : Hp} {D : Addr} {Qd : Hp → Prop} (Pv : Hp → Nat → Hp → Prop) (h0 : Pv H1 0 (upd H1 D (.lst []))) (hl : ∀ i H, i ≤ xs.length → Pv H1 i H → SqL K H a xs)
    (hs : ∀ i x H, xs[i]? = some x → Pv H1 i H → g x (wipe σ vs) H fun σ2 H2 => wipe σ2 vs = wipe σ vs ∧ tt σ2 H2 fun b H3 =>
      if b = true then te σ2 H3 fun y H4 => ∃ acc, H4 D = some (.lst acc) ∧ acc.length < sizeLine ∧ Pv H1 (i + 1) (upd H4 D (.lst (acc ++ [y]))) else Pv H1 (i + 1) H3) (hd : ∀ H, Pv H1 xs.length H → Qd H) :
    ∃ W : Nat → Nat → Hp → Prop, (∃ m, W 0 m (upd H1 D (.lst []))) ∧ ∀ i m H, W i m H →
      ((Itl K a).stop i H ∧ Qd H) ∨ ((Itl K a).go i H ∧ ∃ Nx : Hp → Prop, (∀ H', Nx H' → ∃ m', m' < m ∧ W (i + 1) m' H') ∧ ∀ x H', (Itl K a).yld i H x H' → g x (wipe σ vs) H' fun σ2 H2 => wipe σ2 vs = wipe σ vs ∧ tt σ2 H2 fun b H3 =>
        if b = true then te σ2 H3 fun y H4 => ∃ acc, H4 D = some (.lst acc) ∧ acc.length < sizeLine ∧ Nx (upd H4 D (.lst (acc ++ [y]))) else Nx H3) := lc_list (Pv H1) h0 hl hs hd
theorem lcR {lo : Int} {n : Nat} {g : TG} {tt : TT} {te : TE} {vs : List Nat} {σ : L2.St} {H1 : Hp} {D : Addr} {Qd : Hp → Prop} (Pv : Hp → Nat → Hp → Prop) (h0 : Pv H1 0 (upd H1 D (.lst [])))
    (hs : ∀ i H, i < n → Pv H1 i H → g (.int (lo + i)) (wipe σ vs) H fun σ2 H2 => wipe σ2 vs = wipe σ vs ∧ tt σ2 H2 fun b H3 =>
      if b = true then te σ2 H3 fun y H4 => ∃ acc, H4 D = some (.lst acc) ∧ acc.length < sizeLine ∧ Pv H1 (i + 1) (upd H4 D (.lst (acc ++ [y]))) else Pv H1 (i + 1) H3) (hd : ∀ H, Pv H1 n H → Qd H) :
    ∃ W : Nat → Nat → Hp → Prop, (∃ m, W 0 m (upd H1 D (.lst []))) ∧ ∀ i m H, W i m H →
      ((Itr lo n).stop i H ∧ Qd H) ∨ ((Itr lo n).go i H ∧ ∃ Nx : Hp → Prop, (∀ H', Nx H' → ∃ m', m' < m ∧ W (i + 1) m' H') ∧ ∀ x H', (Itr lo n).yld i H x H' → g x (wipe σ vs) H' fun σ2 H2 => wipe σ2 vs = wipe σ vs ∧ tt σ2 H2 fun b H3 =>
        if b = true then te σ2 H3 fun y H4 => ∃ acc, H4 D = some (.lst acc) ∧ acc.length < sizeLine ∧ Nx (upd H4 D (.lst (acc ++ [y]))) else Nx H3) := lc_range (Pv H1) h0 hs hd
theorem forL {K : PySem.W.Frag} {a : Addr} {xs : List V} {g : TG} {tb : TS} {D : Ends} {σ : L2.St} {H : Hp} (Pv : Hp → Nat → L2.St → Hp → Prop) (h0 : Pv H 0 σ H) (hl : ∀ i σ H', i ≤ xs.length → Pv H i σ H' → SqL K H' a xs)
    (hs : ∀ i x σ H', xs[i]? = some x → Pv H i σ H' → g x σ H' fun σ2 H2 => tb { D with nx := Pv H (i + 1), ct := Pv H (i + 1), bk := D.nx } σ2 H2) (hd : ∀ σ H', Pv H xs.length σ H' → D.nx σ H') :
    ∃ W : Nat → Nat → L2.St → Hp → Prop, (∃ m, W 0 m σ H) ∧ ∀ i m σ H, W i m σ H →
      ((Itl K a).stop i H ∧ D.nx σ H) ∨ ((Itl K a).go i H ∧ ∃ N : L2.St → Hp → Prop, (∀ σ' H', N σ' H' → ∃ m', m' < m ∧ W (i + 1) m' σ' H') ∧ ∀ x H', (Itl K a).yld i H x H' → g x σ H' fun σ2 H2 => tb { D with nx := N, ct := N, bk := D.nx } σ2 H2) := for_list (Pv H) h0 hl hs hd
theorem forR {lo : Int} {n : Nat} {g : TG} {tb : TS} {D : Ends} {σ : L2.St} {H : Hp} (Pv : Hp → Nat → L2.St → Hp → Prop) (h0 : Pv H 0 σ H)
    (hs : ∀ i σ H', i < n → Pv H i σ H' → g (.int (lo + i)) σ H' fun σ2 H2 => tb { D with nx := Pv H (i + 1), ct := Pv H (i + 1), bk := D.nx } σ2 H2) (hd : ∀ σ H', Pv H n σ H' → D.nx σ H') :
    ∃ W : Nat → Nat → L2.St → Hp → Prop, (∃ m, W 0 m σ H) ∧ ∀ i m σ H, W i m σ H →
      ((Itr lo n).stop i H ∧ D.nx σ H) ∨ ((Itr lo n).go i H ∧ ∃ N : L2.St → Hp → Prop, (∀ σ' H', N σ' H' → ∃ m', m' < m ∧ W (i + 1) m' σ' H') ∧ ∀ x H', (Itr lo n).yld i H x H' → g x σ H' fun σ2 H2 => tb { D with nx := N, ct := N, bk := D.nx } σ2 H2) := for_range (Pv H) h0 hs hd
/-- a call's answer when nothing but it matters: the heap by a name -/
theorem name_heap {P : Hp → Prop} {H : Hp} (h : ∀ H', H' = H → P H') : P H := h H rfl
/-! ### the drawn figures -/
def IsSt (xs : List V) : Prop := (∃ x, xs = [.int x]) ∨ ∃ x y z, xs = [.int x, .int y, .int z]
def spDigit : Sp := fun vs H Q _ => ∃ (p : Addr) (xs : List V) (b : Int), vs = [.ref p, .int b] ∧ H p = some (.lst xs) ∧ IsSt xs ∧ 0 < b ∧ b < 1073741824 ∧
  ∀ H' d xs', Frm p H H' → H' p = some (.lst xs') → IsSt xs' → 0 ≤ d → d < b → Q (.int d) H'
local macro_rules | `(tactic| walk_at "ne") => `(tactic| first
  | assumption
  | exact Ne.symm (by assumption)
  | (refine' new_ne ?n1 ?n2; (case n1 => assumption); (case n2 => walk_at "hp"))
  | (refine' Ne.symm (new_ne ?n1 ?n2); (case n1 => assumption); (case n2 => walk_at "hp"))
  | fail)
local macro_rules | `(tactic| walk_at "hp") => `(tactic| first
  | assumption
  | exact upd_same
  | (refine' upd_old ?na ?ho; (case na => assumption); (case ho => walk_at "hp"))
  | (refine' upd_old2 ?na ?ho; (case na => assumption); (case ho => walk_at "hp"))
  | (refine' upd_oth ?na ?ho; (case na => walk_at "ne"); (case ho => walk_at "hp"))
  | (refine' Same.get ?na ?ho; (case na => assumption); (case ho => walk_at "hp"))
  | (refine' Frm.get ?na ?nb ?ho; (case na => assumption); (case nb => walk_at "ne"); (case ho => walk_at "hp"))
  | fail)
local macro_rules | `(tactic| walk_at "fr") => `(tactic| first
  | assumption
  | exact Frm.refl
  | exact Same.refl _
  | (refine' Frm.upd2 ?f; (case f => walk_at "fr"))
  | (refine' Frm.new ?f ?n; (case n => assumption); (case f => walk_at "fr"))
  | (refine' Frm.new2 ?f ?n; (case n => assumption); (case f => walk_at "fr"))
  | (refine' Frm.own ?f ?n; (case n => assumption); (case f => walk_at "fr"))
  | (refine' Frm.trans ?f ?g; (case g => first | assumption | exact Same.frm (by assumption)); (case f => walk_at "fr"))
  | (refine' Same.new ?f ?n; (case n => assumption); (case f => walk_at "fr"))
  | (refine' Same.new2 ?f ?n; (case n => assumption); (case f => walk_at "fr"))
  | (refine' Same.own ?f ?n; (case n => assumption); (case f => walk_at "fr"))
  | (refine' Same.trans ?f ?g; (case g => assumption); (case f => walk_at "fr"))
  | fail)
/-- one step of a reading, where its form alone tells it -/
local macro_rules | `(tactic| walk_at "g") => `(tactic| first
  | refine ⟨_, rfl, ?_⟩
  | refine ⟨_, _, rfl, rfl, ?_⟩
  | refine ⟨rfl, ?_⟩
  | refine ⟨sz rfl, fun _ _ => ?_⟩
  | refine ⟨.inl ⟨rfl, _, SqL.of (by walk_at "hp")⟩, ?_⟩
  | refine ⟨_, _, rfl, .inl (SqL.of (by walk_at "hp")), ?_⟩
  | refine ⟨_, _, rfl, .inr (SqT.of (by walk_at "hp")), ?_⟩
  | refine ⟨_, _, rfl, SqL.of (by walk_at "hp"), fun _ _ => ?_⟩
  | refine ⟨_, _, _, _, rfl, rfl, SqL.of (by walk_at "hp"), rfl, ?_⟩
  | refine ⟨_, _, _, _, rfl, rfl, SqT.of (by walk_at "hp"), rfl, ?_⟩
  | refine ⟨(show (0 : Int) < _ by first | decide | assumption), ?_⟩
  | refine ⟨⟨(show (0 : Int) < _ by first | decide | assumption), by first | decide | assumption⟩, ?_⟩
  | refine ⟨⟨(show (0 : Int) ≤ _ by decide), by decide, by decide⟩, ?_⟩
  | refine ⟨_, _, _, _, rfl, rfl, by walk_at "hp", by walk_at "hp", sz rfl, ?_⟩
  | refine ⟨_, _, _, _, rfl, rfl, by walk_at "hp", rfl, ?_⟩
  | refine ⟨(show CMul _ _ by first | exact .inl ⟨by decide, by decide⟩ | exact .inr ⟨by decide, by decide⟩ | exact .inl ⟨by omega, by omega⟩ | exact .inr ⟨by omega, by omega⟩), ?_⟩
  | fail)
/-- a drawn figure: a call of digit -/
local macro_rules | `(tactic| walk_at "dg") => `(tactic| (refine ⟨_, _, _, rfl, by walk_at "hp", by assumption, by first | decide | omega, by first | decide | omega, fun _ _ _ _ _ _ _ _ => ?_⟩))
/-- a list's item at a drawn place -/
local macro_rules | `(tactic| walk_at "ixI") => `(tactic| (refine' ixI (SqL.of ?h) ?h0 ?h1 ?al (fun _ _ => ?k); (case h => walk_at "hp"); (case al => rfl); (case h0 => first | assumption | omega); (case h1 => first | assumption | (simp only [List.length]; omega))))
section
variable {P : Program} {w : World} {K : PySem.W.Frag} {mg : Str → Option Value} {base : Heap}
theorem ok_l_digit (T : Txt K mg) : FnOk P w K mg base CX0 1 T.a_l_digit T.d_l_digit ["_law_state", "_law_base"] spDigit := by
  refine T.F_l_digit.ok sc_l_digit (fun vs H Q E h => ?_) (fun cdv A outer s H vs Q E hr h => ?_)
  · obtain ⟨p, xs, b, rfl, _⟩ := h
    rfl
  · obtain ⟨p, xs, b, rfl, hp, hx, b0, b1, q⟩ := h
    refine ⟨_, (pss_cons (ps_if (pt_cmpR op_eq (pe_callB call_len_seq (by rfl) T.m_len (by decide +kernel) (pa_cons (pv 0) pa_nil)) pe_int (nomark _)) (pss_one (ps_expr (pe_bm PySem.F.plainAttrs_list PySem.F.slot_list_extend PySem.F.type_list_extend mt_extend (pv 0) (pa_cons (pe_lst (pa_cons (pe_op op_mod (pe_ix ix_list (pv 0) pe_int (fun _ _ => rfl)) pe_int) (pa_cons pe_int pa_nil))) pa_nil)))) pss_nil)
      (pss_cons (ps_if (pt_cmpR op_ge (pe_ix ix_list (pv 0) pe_int (fun _ _ => rfl)) (pv 1) (nomark _)) (pss_cons (ps_set (i := 2) sc_l_digit.nd rfl (Or.inl rfl) (pe_op op_mod (pe_ix ix_list (pv 0) pe_int (fun _ _ => rfl)) (pv 1)))
      (pss_cons (ps_asg (pe_op op_fdiv (pe_ix ix_list (pv 0) pe_int (fun _ _ => rfl)) (pv 1)) (pg_sub (pv 0) pe_int set_list))
      (pss_one (ps_ret (pv 2))))) pss_nil)
      (pss_cons (ps_asg (pe_op op_add (pe_ix ix_list (pv 0) pe_int (fun _ _ => rfl)) pe_int) (pg_sub (pv 0) pe_int set_list))
      (pss_cons (ps_set (i := 3) sc_l_digit.nd rfl (Or.inl rfl) (pe_op op_mod (pe_op op_mul (pe_op op_add (pe_op op_add (pe_ix ix_list (pv 0) pe_int (fun _ _ => rfl)) (pe_op op_mul pe_int (pe_ix ix_list (pv 0) pe_int (fun _ _ => rfl)))) pe_int) pe_int) pe_int))
      (pss_cons (ps_set (i := 3) sc_l_digit.nd rfl (Or.inl rfl) (pe_op op_mod (pe_op op_mul (pv 3) (pe_op op_add (pe_op op_fdiv (pv 3) pe_int) pe_int)) pe_int))
      (pss_one (ps_ret (pe_op op_mod (pe_op op_mod (pe_op op_mul (pv 3) (pe_op op_add (pe_op op_fdiv (pv 3) pe_int) pe_int)) pe_int) (pv 1))))))))), ?_⟩
    rcases hx with ⟨x, rfl⟩ | ⟨x, y, z, rfl⟩
    all_goals
      repeat' walk_at "g"
      refine ite2 (fun c => ?_) (fun c => ?_)
      · repeat' walk_at "g"
        exact q _ _ _ (by walk_at "fr") upd_same (.inr ⟨_, _, _, rfl⟩) (Int.emod_nonneg _ (by omega)) (Int.emod_lt_of_pos _ b0)
      · repeat' walk_at "g"
        exact q _ _ _ (by walk_at "fr") upd_same (.inr ⟨_, _, _, rfl⟩) (Int.emod_nonneg _ (by omega)) (Int.emod_lt_of_pos _ b0)
end

/-! ### promises -/
/-- what a thing is, as far as it matters: a whole number or of one of the other kinds -/
def others : List String := ["bool", "NoneType", "str", "tuple", "list", "dict"]
inductive Thing (K : PySem.W.Frag) (H : Hp) : V → Prop where
  | int (i : Int) : Thing K H (.int i)
  | odd {v : V} {t : String} (ty : TyX K H v (.type t)) (m : t ∈ others) (n : isI v = false) : Thing K H v
def spNumber (K : PySem.W.Frag) : Sp := fun vs H Q _ => ∃ v, vs = [v] ∧ Thing K H v ∧ Q (.bl (isI v)) H
def spCell (K : PySem.W.Frag) : Sp := fun vs H Q _ => ∃ (a : Addr) (ns : List Int) (k : Int), vs = [.ref a, .int k] ∧ SqL K H a (ns.map V.int) ∧ 0 ≤ k ∧ ∀ n, (n ∈ ns ∨ n = 0) → Q (.int n) H
def spTruth : Sp := fun vs H Q _ => ∃ f d : Bool, vs = [.bl f, .bl d] ∧ ∀ H', Same H H' → Q (.bl (f == d)) H'
def spGreat : Sp := fun vs H Q _ => ∃ (p : Addr) (xs : List V), vs = [.ref p] ∧ H p = some (.lst xs) ∧ IsSt xs ∧
  ∀ H' n xs', Frm p H H' → H' p = some (.lst xs') → IsSt xs' → Q (.int n) H'
section
variable {P : Program} {w : World} {K : PySem.W.Frag} {mg : Str → Option Value} {base : Heap}
theorem ok_is_number (T : Txt K mg) : FnOk P w K mg base CX0 1 T.a_is_number T.d_is_number ["thing"] (spNumber K) := by
  refine T.F_is_number.ok sc_is_number (fun vs H Q E h => ?_) (fun cdv A outer s H vs Q E hr h => ?_)
  · obtain ⟨v, rfl, _⟩ := h
    rfl
  · obtain ⟨v, rfl, hv, q⟩ := h
    refine ⟨_, (pss_one (ps_ret (pe_and (pe_callB call_isi (by rfl) T.m_isinstance (by decide +kernel) (pa_cons (pv 0) (pa_cons (pe_bltn (v := .ty "int") (by rfl) T.m_int (by decide +kernel) rfl) pa_nil))) (pe_one (pe_not (pe_callB call_isi (by rfl) T.m_isinstance (by decide +kernel) (pa_cons (pv 0) (pa_cons (pe_bltn (v := .ty "bool") (by rfl) T.m_bool (by decide +kernel) rfl) pa_nil)))))))), ?_⟩
    repeat' walk_at "g"
    cases hv with
    | int i =>
      refine ⟨_, _, _, _, true, rfl, .ty _, .base (.int i), kit_ty (by decide +kernel), _, rfl, ifT rfl ?_⟩
      repeat' walk_at "g"
      exact ⟨_, _, _, _, false, rfl, .ty _, .base (.int i), kit_ty (by decide +kernel), _, rfl, q⟩
    | @odd _ t ty m n =>
      rw [n] at q
      simp only [others, List.mem_cons, List.not_mem_nil, or_false] at m
      rcases m with rfl | rfl | rfl | rfl | rfl | rfl
      · refine ⟨_, _, _, _, true, rfl, .ty _, ty, kit_ty (by decide +kernel), _, rfl, ifT rfl ?_⟩
        repeat' walk_at "g"
        exact ⟨_, _, _, _, true, rfl, .ty _, ty, kit_ty (by decide +kernel), _, rfl, q⟩
      all_goals exact ⟨_, _, _, _, false, rfl, .ty _, ty, kit_ty (by decide +kernel), _, rfl, ifF rfl q⟩
theorem ok_l_cell_at (T : Txt K mg) : FnOk P w K mg base CX0 1 T.a_l_cell_at T.d_l_cell_at ["_law_script", "_law_k"] (spCell K) := by
  refine T.F_l_cell_at.ok sc_l_cell_at (fun vs H Q E h => ?_) (fun cdv A outer s H vs Q E hr h => ?_)
  · obtain ⟨a, ns, k, rfl, _⟩ := h
    rfl
  · obtain ⟨a, ns, k, rfl, hS, h0, q⟩ := h
    refine ⟨_, (pss_cons (ps_if (pt_cmpR op_lt (pv 1) (pe_callB call_len_seq (by rfl) T.m_len (by decide +kernel) (pa_cons (pv 0) pa_nil)) (nomark _)) (pss_one (ps_ret (pe_ix ix_list (pv 0) (pv 1) (fun _ _ => rfl)))) pss_nil)
      (pss_one (ps_ret pe_int))), ?_⟩
    refine ⟨_, rfl, _, rfl, _, _, rfl, .inl hS, ?_⟩
    repeat' walk_at "g"
    refine ite2 (fun c => ?_) (fun c => ?_)
    · have c := of_decide_eq_true c
      refine ⟨_, rfl, _, rfl, ?_⟩
      refine ixP (fun v => ∃ i, v = .int i ∧ i ∈ ns) hS h0 c (fun v hv => ?_) (fun v ⟨i, e, m⟩ => ?_)
      · obtain ⟨i, m, e⟩ := List.mem_map.mp hv
        exact ⟨i, e.symm, m⟩
      · subst e
        exact q i (.inl m)
    · exact q 0 (.inr rfl)
theorem ok_l_truth (T : Txt K mg) : FnOk P w K mg base CX0 1 T.a_l_truth T.d_l_truth ["_law_found", "_law_due"] spTruth := by
  refine T.F_l_truth.ok sc_l_truth (fun vs H Q E h => ?_) (fun cdv A outer s H vs Q E hr h => ?_)
  · obtain ⟨f, d, rfl, _⟩ := h
    rfl
  · obtain ⟨f, d, rfl, q⟩ := h
    refine ⟨_, (pss_one (ps_ret (pe_ix ix_list (pe_lst (pa_cons (pe_cmpR op_is_bl (pv 0) pe_bl (nomark _)) (pa_cons (pe_cmpR op_is_bl (pv 0) pe_bl (nomark _)) pa_nil))) (pe_callTy call_int1 (by rfl) T.m_int (by decide +kernel) (pa_cons (pv 1) pa_nil)) (fun _ _ => rfl)))), ?_⟩
    repeat' walk_at "g"
    refine .inr ⟨_, rfl, ?_⟩
    cases d
    all_goals
      repeat' walk_at "g"
      cases f
      all_goals exact q _ (by walk_at "fr")
theorem ok_l_great (T : Txt K mg) : FnOk P w K mg base CX0 2 T.a_l_great T.d_l_great ["_law_state"] spGreat := by
  refine T.F_l_great.ok sc_l_great (fun vs H Q E h => ?_) (fun cdv A outer s H vs Q E hr h => ?_)
  · obtain ⟨p, xs, rfl, _⟩ := h
    rfl
  · obtain ⟨p, xs, rfl, hp, hx, q⟩ := h
    refine ⟨_, (pss_cons (ps_set (i := 1) sc_l_great.nd rfl (Or.inl rfl) pe_int)
      (pss_cons (ps_for PassesOwn.never rfl (pi_range1 (by rfl) T.m_range (pa_cons pe_int pa_nil)) (pg_name (i := 2) sc_l_great.nd rfl (Or.inl rfl))
        (pss_one (ps_set (i := 1) sc_l_great.nd rfl (Or.inl rfl) (pe_op op_add (pe_op op_mul (pv 1) (pe_op op_pow pe_int pe_int)) (pe_call (ok_l_digit T) (hr.mono (by decide)) (by rfl) T.g_l_digit T.F_l_digit.kp T.b_l_digit .nil pass0 (pa_cons (pv 0) (pa_cons (pe_op op_add (pe_op op_pow pe_int pe_int) pe_int) pa_nil)))))))
      (pss_one (ps_ret (pe_op op_mul (pv 1) (pe_ix ix_list (pe_lst (pa_cons pe_int (pa_cons (pe_un un_neg pe_int) pa_nil))) (pe_call (ok_l_digit T) (hr.mono (by decide)) (by rfl) T.g_l_digit T.F_l_digit.kp T.b_l_digit .nil pass0 (pa_cons (pv 0) (pa_cons pe_int pa_nil))) (fun _ _ => rfl))))))), ?_⟩
    repeat' walk_at "g"
    refine ⟨by decide, by decide, for_range (lo := 0) (n := 4) (fun _ σ H' => ∃ n y xs', σ = [some (.ref p), some (.int n), y] ∧ Frm p H H' ∧ H' p = some (.lst xs') ∧ IsSt xs') ⟨0, none, _, rfl, Frm.refl, hp, hx⟩ ?_ ?_⟩
    · rintro i σ H1 hi ⟨n, y, xs1, rfl, f1, h1, x1⟩
      repeat' walk_at "g"
      walk_at "dg"
      repeat' walk_at "g"
      exact ⟨_, _, _, rfl, by walk_at "fr", by assumption, by assumption⟩
    · rintro σ H1 ⟨n, y, xs1, rfl, f1, h1, x1⟩
      repeat' walk_at "g"
      walk_at "dg"
      rename_i H2 d xs2 f2 h2 x2 d0 d1
      refine' ixP (fun v => v = .int 1 ∨ v = .int (-1)) (SqL.of ?h) d0 ?h1 ?al (fun v hv => ?_)
      case h => walk_at "hp"
      case h1 => exact d1
      case al => simp
      rcases hv with rfl | rfl
      all_goals
        repeat' walk_at "g"
        exact q _ _ _ (by walk_at "fr") (by assumption) (by assumption)
end

def inB (lo hi : Int) : V → Bool
  | .int i => decide (lo ≤ i) && decide (i ≤ hi)
  | _ => false
theorem inB_odd {lo hi : Int} {v : V} (h : isI v = false) : inB lo hi v = false := by
  cases v <;> first | rfl | cases h
def spWhole (K : PySem.W.Frag) : Sp := fun vs H Q _ => ∃ v lo hi, vs = [v, .int lo, .int hi] ∧ Thing K H v ∧ Q (.bl (inB lo hi v)) H
def nolist : List String := ["bool", "NoneType", "str", "tuple", "dict", "int"]
def spBytes (K : PySem.W.Frag) : Sp := fun vs H Q _ => ∃ v, vs = [v] ∧
  ((∃ a xs, v = .ref a ∧ H a = some (.lst xs) ∧ (∀ x ∈ xs, Thing K H x) ∧ Q (.bl (xs.all (inB 0 255))) H) ∨ (∃ t, TyX K H v (.type t) ∧ t ∈ nolist ∧ Q (.bl false) H))
def spRight : Sp := fun vs H Q _ => ∃ (p : Addr) (xs : List V), vs = [.ref p] ∧ H p = some (.lst xs) ∧ IsSt xs ∧
  ∀ H' xs', Frm p H H' → H' p = some (.lst xs') → IsSt xs' → Q (.bl true) H'
section
variable {P : Program} {w : World} {K : PySem.W.Frag} {mg : Str → Option Value} {base : Heap}
theorem ok_is_whole (T : Txt K mg) : FnOk P w K mg base CX0 2 T.a_is_whole T.d_is_whole ["thing", "low", "high"] (spWhole K) := by
  refine T.F_is_whole.ok sc_is_whole (fun vs H Q E h => ?_) (fun cdv A outer s H vs Q E hr h => ?_)
  · obtain ⟨v, lo, hi, rfl, _⟩ := h
    rfl
  · obtain ⟨v, lo, hi, rfl, hv, q⟩ := h
    refine ⟨_, (pss_one (ps_ret (pe_and (pe_call (ok_is_number T) (hr.mono (by decide)) (by rfl) T.g_is_number T.F_is_number.kp T.b_is_number .nil pass0 (pa_cons (pv 0) pa_nil)) (pe_one (pe_chainI op_le op_le (pv 1) (pv 0) (pv 2) mn_var mn_var mn_var sh_var))))), ?_⟩
    refine ⟨_, rfl, v, rfl, hv, _, rfl, ?_⟩
    cases hv with
    | int i =>
      refine ifT rfl ?_
      repeat' walk_at "g"
      exact ⟨_, _, _, rfl, rfl, rfl, rfl, q⟩
    | odd ty m n =>
      rw [inB_odd n] at q
      exact ifF n q
theorem ok_is_bytes (T : Txt K mg) : FnOk P w K mg base CX0 3 T.a_is_bytes T.d_is_bytes ["thing"] (spBytes K) := by
  refine T.F_is_bytes.ok sc_is_bytes (fun vs H Q E h => ?_) (fun cdv A outer s H vs Q E hr h => ?_)
  · obtain ⟨v, rfl, _⟩ := h
    rfl
  · obtain ⟨v, rfl, h⟩ := h
    refine ⟨_, (pss_cons (ps_if (pt_not (pt_val (pe_callB call_isi (by rfl) T.m_isinstance (by decide +kernel) (pa_cons (pv 0) (pa_cons (pe_bltn (v := .ty "list") (by rfl) T.m_list (by decide +kernel) rfl) pa_nil))))) (pss_one (ps_ret pe_bl)) pss_nil)
      (pss_cons (ps_for PassesOwn.never rfl (pi_list (pv 0)) (pg_name (i := 1) sc_is_bytes.nd rfl (Or.inl rfl))
        (pss_one (ps_if (pt_not (pt_val (pe_call (ok_is_whole T) (hr.mono (by decide)) (by rfl) T.g_is_whole T.F_is_whole.kp T.b_is_whole .nil pass0 (pa_cons (pv 1) (pa_cons pe_int (pa_cons pe_int pa_nil)))))) (pss_one (ps_ret pe_bl)) pss_nil)))
      (pss_one (ps_ret pe_bl)))), ?_⟩
    repeat' walk_at "g"
    rcases h with ⟨a, xs, rfl, ha, hx, q⟩ | ⟨t, ty, m, q⟩
    · refine ⟨_, _, _, _, true, rfl, .ty _, .base (.lst ha), kit_ty (by decide +kernel), _, rfl, ifF rfl ?_⟩
      refine ⟨_, rfl, _, rfl, ⟨_, SqL.of ha⟩, for_list (K := K) (a := a) (xs := xs) (fun i σ H' => H' = H ∧ (xs.take i).all (inB 0 255) = true ∧ ∃ y, σ = [some (.ref a), y]) ⟨rfl, by simp, _, rfl⟩ (fun i σ H' _ ⟨e, _⟩ => e ▸ SqL.of ha) ?_ ?_⟩
      · rintro i x σ H' hi ⟨rfl, hall, y, rfl⟩
        have hm : x ∈ xs := List.mem_of_getElem? hi
        repeat' walk_at "g"
        refine ⟨_, _, _, rfl, hx x hm, _, rfl, ?_⟩
        refine ifC (fun c => ?_) (fun c => ?_)
        · have c2 : inB 0 255 x = false := by simpa using c
          have e : xs.all (inB 0 255) = false := List.all_eq_false.mpr ⟨x, hm, by rw [c2]; simp⟩
          rw [e] at q
          exact q
        · have c2 : inB 0 255 x = true := by simpa using c
          refine ⟨rfl, ?_, _, rfl⟩
          rw [List.take_add_one, hi, List.all_append, hall]
          simp [c2]
      · rintro σ H' ⟨rfl, hall, y, rfl⟩
        rw [List.take_length] at hall
        rw [hall] at q
        exact q
    · simp only [nolist, List.mem_cons, List.not_mem_nil, or_false] at m
      rcases m with rfl | rfl | rfl | rfl | rfl | rfl
      all_goals exact ⟨_, _, _, _, false, rfl, .ty _, ty, kit_ty (by decide +kernel), _, rfl, ifT rfl q⟩
theorem log_small {n : Int} (h0 : 0 ≤ n) (h1 : n < 1000) : n.natAbs.log2 < 1920 := by
  have h : n.natAbs < 2 ^ 10 := by omega
  exact Nat.lt_of_lt_of_le (PySem.Flt.log2_lt_of (by decide) h) (by decide)
theorem ok_l_whole_right (T : Txt K mg) : FnOk P w K mg base CX0 3 T.a_l_whole_right T.d_l_whole_right ["_law_state"] spRight := by
  refine T.F_l_whole_right.ok sc_l_whole_right (fun vs H Q E h => ?_) (fun cdv A outer s H vs Q E hr h => ?_)
  · obtain ⟨p, xs, rfl, _⟩ := h
    rfl
  · obtain ⟨p, xs, rfl, hp, hx, q⟩ := h
    refine ⟨_, (pss_cons (ps_set (i := 1) sc_l_whole_right.nd rfl (Or.inl rfl) (pe_ix ix_list (pe_lst (pa_cons pe_int (pa_cons pe_int (pa_cons (pe_call (ok_l_digit T) (hr.mono (by decide)) (by rfl) T.g_l_digit T.F_l_digit.kp T.b_l_digit .nil pass0 (pa_cons (pv 0) (pa_cons pe_int pa_nil))) (pa_cons (pe_call (ok_l_great T) (hr.mono (by decide)) (by rfl) T.g_l_great T.F_l_great.kp T.b_l_great .nil pass0 (pa_cons (pv 0) pa_nil)) pa_nil))))) (pe_call (ok_l_digit T) (hr.mono (by decide)) (by rfl) T.g_l_digit T.F_l_digit.kp T.b_l_digit .nil pass0 (pa_cons (pv 0) (pa_cons pe_int pa_nil))) (fun _ _ => rfl)))
      (pss_cons (ps_set (i := 2) sc_l_whole_right.nd rfl (Or.inl rfl) (pe_op op_add (pv 1) (pe_ix ix_list (pe_lst (pa_cons pe_int (pa_cons pe_int (pa_cons pe_int (pa_cons (pe_call (ok_l_digit T) (hr.mono (by decide)) (by rfl) T.g_l_digit T.F_l_digit.kp T.b_l_digit .nil pass0 (pa_cons (pv 0) (pa_cons (pe_op op_pow pe_int pe_int) pa_nil))) (pa_cons (pe_un un_neg pe_int) pa_nil)))))) (pe_call (ok_l_digit T) (hr.mono (by decide)) (by rfl) T.g_l_digit T.F_l_digit.kp T.b_l_digit .nil pass0 (pa_cons (pv 0) (pa_cons pe_int pa_nil))) (fun _ _ => rfl))))
      (pss_cons (ps_set (i := 3) sc_l_whole_right.nd rfl (Or.inl rfl) (pe_lst (pa_cons (pv 1) (pa_cons (pv 2) (pa_cons (pe_op op_sub (pv 1) pe_int) (pa_cons (pe_op op_add (pv 2) pe_int) (pa_cons (pe_op op_add (pv 1) (pe_op op_fdiv (pe_op op_sub (pv 2) (pv 1)) pe_int)) (pa_cons (pe_op op_sub pe_int (pv 1)) (pa_cons (pe_call (ok_l_great T) (hr.mono (by decide)) (by rfl) T.g_l_great T.F_l_great.kp T.b_l_great .nil pass0 (pa_cons (pv 0) pa_nil)) pa_nil)))))))))
      (pss_cons (ps_set (i := 4) sc_l_whole_right.nd rfl (Or.inl rfl) (pe_ix ix_list (pv 3) (pe_call (ok_l_digit T) (hr.mono (by decide)) (by rfl) T.g_l_digit T.F_l_digit.kp T.b_l_digit .nil pass0 (pa_cons (pv 0) (pa_cons pe_int pa_nil))) (fun _ _ => rfl)))
      (pss_cons (ps_if (pt_not (pt_val (pe_call (ok_l_truth T) (hr.mono (by decide)) (by rfl) T.g_l_truth T.F_l_truth.kp T.b_l_truth .nil pass0 (pa_cons (pe_call (ok_is_whole T) (hr.mono (by decide)) (by rfl) T.g_is_whole T.F_is_whole.kp T.b_is_whole .nil pass0 (pa_cons (pv 4) (pa_cons (pv 1) (pa_cons (pv 2) pa_nil)))) (pa_cons (pe_chainI op_le op_le (pv 1) (pv 4) (pv 2) mn_var mn_var mn_var sh_var) pa_nil))))) (pss_one (ps_ret pe_bl)) pss_nil)
      (pss_cons (ps_set (i := 5) sc_l_whole_right.nd rfl (Or.inl rfl) (pe_lst (pa_cons pe_bl (pa_cons pe_bl (pa_cons pe_non (pa_cons (pe_callTy call_str_int (by rfl) T.m_str (by decide +kernel) (pa_cons (pe_op op_mod (pv 1) pe_int) pa_nil)) (pa_cons (pe_tup (pa_cons (pv 1) pa_nil)) (pa_cons (pe_lst (pa_cons (pv 1) pa_nil)) (pa_cons (pe_disp (pps_cons (pv 1) (pv 1) pps_nil) (by rfl) (by rfl) (fun z => by cases z) (by decide)) (pa_cons pe_str (pa_cons (pe_tup (pa_cons (pv 1) (pa_cons (pv 2) pa_nil))) pa_nil)))))))))))
      (pss_cons (ps_set (i := 6) sc_l_whole_right.nd rfl (Or.inl rfl) (pe_ix ix_list (pv 5) (pe_call (ok_l_digit T) (hr.mono (by decide)) (by rfl) T.g_l_digit T.F_l_digit.kp T.b_l_digit .nil pass0 (pa_cons (pv 0) (pa_cons pe_int pa_nil))) (fun _ _ => rfl)))
      (pss_one (ps_ret (pe_and (pe_cmpR op_is_bl (pe_call (ok_is_whole T) (hr.mono (by decide)) (by rfl) T.g_is_whole T.F_is_whole.kp T.b_is_whole .nil pass0 (pa_cons (pv 6) (pa_cons (pv 1) (pa_cons (pv 2) pa_nil)))) pe_bl (nomark _)) (pe_one (pe_cmpR op_is_bl (pe_callN0 (ok_is_whole T) (hr.mono (by decide)) (by rfl) T.g_is_whole T.F_is_whole.kp T.kb_is_whole_thing_low_high pass0 (pk_cons (pv 6) (pk_cons pe_int (pk_cons pe_int pk_nil)))) pe_bl (nomark _))))))))))))), ?_⟩
    -- under
    repeat' walk_at "g"
    walk_at "dg"
    repeat' walk_at "g"
    refine ⟨_, _, rfl, by walk_at "hp", by assumption, fun _ _ _ _ _ _ => ?_⟩
    repeat' walk_at "g"
    walk_at "dg"
    walk_at "ixI"
    rename_i under _
    -- above
    repeat' walk_at "g"
    walk_at "dg"
    repeat' walk_at "g"
    walk_at "dg"
    walk_at "ixI"
    rename_i above _
    -- near
    repeat' walk_at "g"
    refine ⟨_, _, rfl, by walk_at "hp", by assumption, fun _ _ _ _ _ _ => ?_⟩
    repeat' walk_at "g"
    walk_at "dg"
    walk_at "ixI"
    rename_i what _
    -- is_whole at a whole number
    repeat' walk_at "g"
    refine ⟨_, _, _, rfl, .int _, ?_⟩
    repeat' walk_at "g"
    refine ⟨_, _, _, rfl, rfl, rfl, rfl, ?_⟩
    refine ⟨_, _, rfl, fun _ _ => ?_⟩
    repeat' walk_at "g"
    refine ifF (by simp [inB]) ?_
    -- some
    repeat' walk_at "g"
    refine ⟨log_small (Int.emod_nonneg _ (by decide)) (Int.emod_lt_of_pos _ (by decide)), ?_⟩
    repeat' walk_at "g"
    intro dp ndp
    repeat' walk_at "g"
    refine ⟨upd_same, [(Sum.inl under, .int under)], rfl, (Nat.le_of_ble_eq_true rfl), ?_⟩
    repeat' walk_at "g"
    walk_at "dg"
    rename_i H9 d9 xs9 f9 h9 st9 d0 d1
    refine' ixP (fun v => Thing K H9 v ∧ isI v = false) (SqL.of ?h) d0 ?h1 ?al (fun v hv => ?_)
    case h => walk_at "hp"
    case h1 => exact d1
    case al =>
      intro v hv
      simp only [List.mem_cons, List.not_mem_nil, or_false] at hv
      rcases hv with rfl | rfl | rfl | rfl | rfl | rfl | rfl | rfl | rfl
      · exact ⟨.odd (.base (.bl _)) (by simp [others]) rfl, rfl⟩
      · exact ⟨.odd (.base (.bl _)) (by simp [others]) rfl, rfl⟩
      · exact ⟨.odd (.base .non) (by simp [others]) rfl, rfl⟩
      · exact ⟨.odd (.base (.str _)) (by simp [others]) rfl, rfl⟩
      · exact ⟨.odd (.base (.tup (by walk_at "hp"))) (by simp [others]) rfl, rfl⟩
      · exact ⟨.odd (.base (.lst (by walk_at "hp"))) (by simp [others]) rfl, rfl⟩
      · exact ⟨.odd (.base (.dK (by walk_at "hp"))) (by simp [others]) rfl, rfl⟩
      · exact ⟨.odd (.base (.str _)) (by simp [others]) rfl, rfl⟩
      · exact ⟨.odd (.base (.tup (by walk_at "hp"))) (by simp [others]) rfl, rfl⟩
    obtain ⟨th, hn⟩ := hv
    repeat' walk_at "g"
    refine ⟨_, _, _, rfl, th, ?_⟩
    repeat' walk_at "g"
    refine ifT (by rw [inB_odd hn]; rfl) ?_
    repeat' walk_at "g"
    refine ⟨_, _, _, rfl, th, ?_⟩
    repeat' walk_at "g"
    have e : decide (inB 0 1 v = false) = true := by rw [inB_odd hn]; rfl
    show Q (.bl (decide (inB 0 1 v = false))) H9
    rw [e]
    exact q _ _ (by walk_at "fr") h9 st9
end

/-! ### lists of whole numbers as data -/
theorem dpInts {K : PySem.W.Frag} {H : Hp} : ∀ ns : List Int, DpAll K H (ns.map V.int) (ns.map PyData.int)
  | [] => .nil
  | n :: ns => .cons (.int n) (dpInts ns)
theorem layInts : ∀ ns : List Int, PyData.canLayAll0 (ns.map PyData.int) = true
  | [] => rfl
  | n :: ns => by simp [PyData.canLayAll0, PyData.canLay0, layInts ns]
theorem depInts : ∀ ns : List Int, PyData.depthAll (ns.map PyData.int) = 0
  | [] => rfl
  | n :: ns => by simp [PyData.depthAll, PyData.depth, depInts ns]
theorem shapedL (ns : List Int) : SeqAt.shaped (.list (ns.map PyData.int)) = true := by
  show (PyData.canLayAll0 (ns.map PyData.int) && decide (PyData.depthAll (ns.map PyData.int) + 1 ≤ 64)) = true
  rw [layInts, depInts]; rfl
theorem shapedT (ns : List Int) : SeqAt.shaped (.tuple (ns.map PyData.int)) = true := by
  show (PyData.canLayAll0 (ns.map PyData.int) && decide (PyData.depthAll (ns.map PyData.int) + 1 ≤ 64)) = true
  rw [layInts, depInts]; rfl
theorem neqInts {K : PySem.W.Frag} {H : Hp} {Q : VK} {p q : Addr} {ns ms : List Int} (h1 : SqL K H p (ns.map V.int)) (h2 : SqL K H q (ms.map V.int)) (k : Q (.bl (!decide (ns = ms))) H) : rNeD K (.ref p) (.ref q) H Q := by
  refine ⟨_, _, .lst h1 (dpInts ns), .lst h2 (dpInts ms), shapedL ns, shapedL ms, ?_⟩
  have e : PyData.eqv (.list (ns.map PyData.int)) (.list (ms.map PyData.int)) = decide (ns = ms) := by
    rw [PyData.eqv]; exact PySem.W.ked_eqvAll ns ms
  rw [e]; exact k
theorem eqInts {K : PySem.W.Frag} {H : Hp} {Q : VK} {p q : Addr} {ns ms : List Int} (h1 : SqL K H p (ns.map V.int)) (h2 : SqL K H q (ms.map V.int)) (k : Q (.bl (decide (ns = ms))) H) : rEqD K (.ref p) (.ref q) H Q := by
  refine ⟨_, _, .lst h1 (dpInts ns), .lst h2 (dpInts ms), shapedL ns, shapedL ms, ?_⟩
  have e : PyData.eqv (.list (ns.map PyData.int)) (.list (ms.map PyData.int)) = decide (ns = ms) := by
    rw [PyData.eqv]; exact PySem.W.ked_eqvAll ns ms
  rw [e]; exact k
theorem neqIntsT {K : PySem.W.Frag} {H : Hp} {Q : VK} {p q : Addr} {ns ms : List Int} (h1 : SqT K H p (ns.map V.int)) (h2 : SqT K H q (ms.map V.int)) (k : Q (.bl (!decide (ns = ms))) H) : rNeD K (.ref p) (.ref q) H Q := by
  refine ⟨_, _, .tup h1 (dpInts ns), .tup h2 (dpInts ms), shapedT ns, shapedT ms, ?_⟩
  have e : PyData.eqv (.tuple (ns.map PyData.int)) (.tuple (ms.map PyData.int)) = decide (ns = ms) := by
    rw [PyData.eqv]; exact PySem.W.ked_eqvAll ns ms
  rw [e]; exact k
theorem eqIntsT {K : PySem.W.Frag} {H : Hp} {Q : VK} {p q : Addr} {ns ms : List Int} (h1 : SqT K H p (ns.map V.int)) (h2 : SqT K H q (ms.map V.int)) (k : Q (.bl (decide (ns = ms))) H) : rEqD K (.ref p) (.ref q) H Q := by
  refine ⟨_, _, .tup h1 (dpInts ns), .tup h2 (dpInts ms), shapedT ns, shapedT ms, ?_⟩
  have e : PyData.eqv (.tuple (ns.map PyData.int)) (.tuple (ms.map PyData.int)) = decide (ns = ms) := by
    rw [PyData.eqv]; exact PySem.W.ked_eqvAll ns ms
  rw [e]; exact k
/-! ### slices -/
theorem cutV_mem {xs : List V} {lo hi : Option Int} {v : V} (h : v ∈ cutV xs lo hi) : v ∈ xs := List.mem_of_mem_drop (List.mem_of_mem_take h)
theorem cutV_lo {xs : List V} {n : Int} (h0 : 0 ≤ n) (h1 : n ≤ xs.length) : cutV xs (some n) none = xs.drop n.toNat := by
  have e : HT.sIx xs.length 0 (some n) = n.toNat := by
    have q : n = ((n.toNat : Nat) : Int) := by omega
    rw [q, HT.sIx_nat]
    omega
  unfold cutV
  rw [e, HT.sIx_none]
  exact List.take_of_length_le (by rw [List.length_drop]; exact Nat.le_refl _)
theorem cutV_hi {xs : List V} {n : Int} (h0 : 0 ≤ n) (h1 : n ≤ xs.length) : cutV xs none (some n) = xs.take n.toNat := by
  have e : HT.sIx xs.length xs.length (some n) = n.toNat := by
    have q : n = ((n.toNat : Nat) : Int) := by omega
    rw [q, HT.sIx_nat]
    omega
  unfold cutV
  rw [e, HT.sIx_none]
  rfl
def spRow : Sp := fun vs H Q _ => ∃ (p : Addr) (xs : List V), vs = [.ref p] ∧ H p = some (.lst xs) ∧ IsSt xs ∧
  ∀ (H' : Hp) (xs' : List V) (q : Addr) (ns : List Int), Frm p H H' → H' p = some (.lst xs') → IsSt xs' → H' q = some (.lst (ns.map V.int)) → q ≠ p → ns.length ≤ 60 → (∀ n ∈ ns, 0 ≤ n ∧ n ≤ 255) → Q (.ref q) H'
theorem mem_snoc {P : Int → Prop} {ns : List Int} {i : Int} (h : ∀ n ∈ ns, P n) (hi : P i) : ∀ n ∈ ns ++ [i], P n := fun n hn => by
  rcases List.mem_append.mp hn with h1 | h1
  · exact h n h1
  · rw [List.mem_singleton.mp h1]; exact hi
section
variable {P : Program} {w : World} {K : PySem.W.Frag} {mg : Str → Option Value} {base : Heap}
theorem ok_l_row (T : Txt K mg) : FnOk P w K mg base CX0 2 T.a_l_row T.d_l_row ["_law_state"] spRow := by
  refine T.F_l_row.ok sc_l_row (fun vs H Q E h => ?_) (fun cdv A outer s H vs Q E hr h => ?_)
  · obtain ⟨p, xs, rfl, _⟩ := h
    rfl
  · obtain ⟨p, xs, rfl, hp, hx, q⟩ := h
    refine ⟨_, (pss_cons (ps_set (i := 1) sc_l_row.nd rfl (Or.inl rfl) (pe_ix ix_list (pe_lst (pa_cons pe_int (pa_cons pe_int (pa_cons (pe_call (ok_l_digit T) (hr.mono (by decide)) (by rfl) T.g_l_digit T.F_l_digit.kp T.b_l_digit .nil pass0 (pa_cons (pv 0) (pa_cons pe_int pa_nil))) (pa_cons (pe_call (ok_l_digit T) (hr.mono (by decide)) (by rfl) T.g_l_digit T.F_l_digit.kp T.b_l_digit .nil pass0 (pa_cons (pv 0) (pa_cons pe_int pa_nil))) pa_nil))))) (pe_call (ok_l_digit T) (hr.mono (by decide)) (by rfl) T.g_l_digit T.F_l_digit.kp T.b_l_digit .nil pass0 (pa_cons (pv 0) (pa_cons pe_int pa_nil))) (fun _ _ => rfl)))
      (pss_one (ps_ret (pe_lc (own := [("_law_k", 2)]) (g := gName 2) (tt := tYes) (by rfl) sc_l_row.nd (pi_range1 (by rfl) T.m_range (pa_cons (pv 1) pa_nil)) (blkOk_by (own := [("_law_k", 2)]) (N := N_l_row) (sc := defScope s_l_row) (by decide +kernel)) (fun _ _ _ _ _ => (pg_name (i := 2) sc_l_row.nd rfl (Or.inl rfl))) (fun _ _ _ _ _ => pts_nil) (fun _ _ _ _ _ => (pe_ix (ix_listK (K := K) rfl) (pe_lst (pa_cons (pe_call (ok_l_digit T) (hr.mono (by decide)) (by rfl) T.g_l_digit T.F_l_digit.kp T.b_l_digit .nil pass0 (pa_cons (pv 0) (pa_cons pe_int pa_nil))) (pa_cons (pe_op op_mul pe_int (pe_call (ok_l_digit T) (hr.mono (by decide)) (by rfl) T.g_l_digit T.F_l_digit.kp T.b_l_digit .nil pass0 (pa_cons (pv 0) (pa_cons pe_int pa_nil)))) pa_nil))) (pe_op op_fdiv (pe_call (ok_l_digit T) (hr.mono (by decide)) (by rfl) T.g_l_digit T.F_l_digit.kp T.b_l_digit .nil pass0 (pa_cons (pv 0) (pa_cons pe_int pa_nil))) pe_int) (fun _ _ => rfl))))))), ?_⟩
    repeat' walk_at "g"
    walk_at "dg"
    rename_i H1 a1 xs1 f1 h1 st1 a0 a61
    repeat' walk_at "g"
    walk_at "dg"
    rename_i H2 a2 xs2 f2 h2 st2 b0 b61
    repeat' walk_at "g"
    walk_at "dg"
    rename_i H3 a3 xs3 f3 h3 st3 c0 c4
    refine' ixP (fun v => ∃ i, v = .int i ∧ 0 ≤ i ∧ i ≤ 60) (SqL.of ?h) c0 ?h1 ?al (fun v hv => ?_)
    case h => walk_at "hp"
    case h1 => exact c4
    case al =>
      intro v hv
      simp only [List.mem_cons, List.not_mem_nil, or_false] at hv
      rcases hv with rfl | rfl | rfl | rfl
      all_goals exact ⟨_, rfl, by omega, by omega⟩
    obtain ⟨many, rfl, m0, m60⟩ := hv
    repeat' walk_at "g"
    refine ⟨by omega, by omega, fun D nD => ?_⟩
    have nDp : D ≠ p := by walk_at "ne"
    refine lc_range (lo := 0) (n := many.toNat) (fun i H' => ∃ (ns : List Int) (xs' : List V), Frm p H3 H' ∧ H' p = some (.lst xs') ∧ IsSt xs' ∧ H' D = some (.lst (ns.map V.int)) ∧ ns.length = i ∧ ∀ n ∈ ns, 0 ≤ n ∧ n ≤ 255) ?_ ?_ ?_
    · exact ⟨[], _, by walk_at "fr", by walk_at "hp", by assumption, upd_same, rfl, fun n hn => nomatch hn⟩
    · rintro i H4 hi ⟨ns, xs4, f4, h4, st4, hD, hl, hn⟩
      refine ⟨rfl, ?_⟩
      repeat' walk_at "g"
      walk_at "dg"
      repeat' walk_at "g"
      walk_at "dg"
      repeat' walk_at "g"
      walk_at "dg"
      rename_i H5 d5 xs5 f5 h5 st5 d50 d54
      repeat' walk_at "g"
      refine' ixP (fun v => ∃ i, v = .int i ∧ 0 ≤ i ∧ i ≤ 255) (SqL.of ?h) (d := d5 / 3) ?h0 ?h1 ?al (fun v hv => ?_)
      case h => walk_at "hp"
      case h0 => omega
      case h1 => show d5 / 3 < 2; omega
      case al =>
        intro v hv
        simp only [List.mem_cons, List.not_mem_nil, or_false] at hv
        rcases hv with rfl | rfl
        all_goals exact ⟨_, rfl, by omega, by omega⟩
      obtain ⟨b, rfl, b0, b255⟩ := hv
      refine ⟨_, by walk_at "hp", sznl (by rw [List.length_map]; omega), ns ++ [b], xs5, by walk_at "fr", by walk_at "hp", st5, ?_, ?_, mem_snoc hn ⟨b0, b255⟩⟩
      · rw [upd_same, List.map_append]; rfl
      · rw [List.length_append, hl]; rfl
    · rintro H4 ⟨ns, xs4, f4, h4, st4, hD, hl, hn⟩
      exact q H4 xs4 D ns (by walk_at "fr") h4 st4 hD nDp (by omega) hn
end

/-! ### what a thing is stays so -/
theorem TyX.keep {K : PySem.W.Frag} {H H' : Hp} {v : V} {t : Value} (f : ∀ b o, v = .ref b → H b = some o → H' b = some o) (h : TyX K H v t) : TyX K H' v t := by
  cases h with
  | base b =>
    refine .base ?_
    cases b with
    | non => exact .non
    | bl x => exact .bl x
    | int i => exact .int i
    | str x => exact .str x
    | flt x => exact .flt x
    | lst e => exact .lst (f _ _ rfl e)
    | frz e => exact .frz (f _ _ rfl e)
    | tup e => exact .tup (f _ _ rfl e)
    | dK e => exact .dK (f _ _ rfl e)
    | dT e => exact .dT (f _ _ rfl e)
    | ins e a b c d g => exact .ins (f _ _ rfl e) a b c d g
  | byt b => exact .byt b
  | set e => exact .set (f _ _ rfl e)
  | kList e c => exact .kList e c
  | kTuple e c => exact .kTuple e c
  | kDict e c => exact .kDict e c
  | fTuple e => exact .fTuple (f _ _ rfl e)
  | fDict e => exact .fDict (f _ _ rfl e)
theorem Thing.keep {K : PySem.W.Frag} {H H' : Hp} {v : V} (f : ∀ b o, v = .ref b → H b = some o → H' b = some o) (h : Thing K H v) : Thing K H' v := by
  cases h with
  | int i => exact .int i
  | odd ty m n => exact .odd (TyX.keep f ty) m n
theorem bytes_ok {ns : List Int} (h : ∀ n ∈ ns, 0 ≤ n ∧ n ≤ 255) : (ns.map V.int).all (inB 0 255) = true := by
  rw [List.all_eq_true]
  intro v hv
  obtain ⟨n, hn, rfl⟩ := List.mem_map.mp hv
  have := h n hn
  show (decide (0 ≤ n) && decide (n ≤ 255)) = true
  simp [this.1, this.2]
theorem ints_things {K : PySem.W.Frag} {H : Hp} {ns : List Int} : ∀ x ∈ ns.map V.int, Thing K H x := fun v hv => by
  obtain ⟨n, _, rfl⟩ := List.mem_map.mp hv
  exact .int n
theorem cut_all {R : List V} {lo hi : Option Int} {f : V → Bool} (h : R.all f = true) : (cutV R lo hi).all f = true := by
  rw [List.all_eq_true] at h ⊢
  exact fun x hx => h x (cutV_mem hx)
theorem spoilt_all {R : List V} {a : Int} {v : V} (h : R.all (inB 0 255) = true) : (cutV R none (some a) ++ [v] ++ cutV R (some a) none).all (inB 0 255) = inB 0 255 v := by
  rw [List.all_append, List.all_append, cut_all h, cut_all h]
  simp
/-- a thing that is no row of bytes, seen so in H -/
inductive Bad (K : PySem.W.Frag) (H : Hp) : V → Prop where
  | lst {a : Addr} {xs : List V} (e : H a = some (.lst xs)) (t : ∀ x ∈ xs, Thing K H x) (n : xs.all (inB 0 255) = false) : Bad K H (.ref a)
  | odd {v : V} {t : String} (ty : TyX K H v (.type t)) (m : t ∈ nolist) : Bad K H v
theorem Bad.same {K : PySem.W.Frag} {H H' : Hp} {v : V} (f : Same H H') (h : Bad K H v) : Bad K H' v := by
  cases h with
  | lst e t n => exact .lst (f _ _ e) (fun x hx => (t x hx).keep fun b o _ h => f b o h) n
  | odd ty m => exact .odd (TyX.keep (fun b o _ h => f b o h) ty) m
section
variable {P : Program} {w : World} {K : PySem.W.Frag} {mg : Str → Option Value} {base : Heap}
theorem ok_l_rows_right (T : Txt K mg) : FnOk P w K mg base CX0 4 T.a_l_rows_right T.d_l_rows_right ["_law_state"] spRight := by
  refine T.F_l_rows_right.ok sc_l_rows_right (fun vs H Q E h => ?_) (fun cdv A outer s H vs Q E hr h => ?_)
  · obtain ⟨p, xs, rfl, _⟩ := h
    rfl
  · obtain ⟨p, xs, rfl, hp, hx, q⟩ := h
    refine ⟨_, (pss_cons (ps_set (i := 1) sc_l_rows_right.nd rfl (Or.inl rfl) (pe_call (ok_l_row T) (hr.mono (by decide)) (by rfl) T.g_l_row T.F_l_row.kp T.b_l_row .nil pass0 (pa_cons (pv 0) pa_nil)))
      (pss_cons (ps_set (i := 2) sc_l_rows_right.nd rfl (Or.inl rfl) (pe_callTy call_list_of (by rfl) T.m_list (by decide +kernel) (pa_cons (pv 1) pa_nil)))
      (pss_cons (ps_if (PW.pt (pw_or (pt_cmpR op_isnot_bl (pe_call (ok_is_bytes T) (hr.mono (by decide)) (by rfl) T.g_is_bytes T.F_is_bytes.kp T.b_is_bytes .nil pass0 (pa_cons (pv 1) pa_nil)) pe_bl (nomark _)) (pw_or1 (pt_cmpR (op_neD hr.units) (pv 1) (pv 2) (nomark _))))) (pss_one (ps_ret pe_bl)) pss_nil)
      (pss_cons (ps_set (i := 3) sc_l_rows_right.nd rfl (Or.inl rfl) (pe_lst (pa_cons pe_int (pa_cons (pe_un un_neg pe_int) (pa_cons pe_bl (pa_cons pe_non (pa_cons pe_str (pa_cons pe_str (pa_cons (pe_lst (pa_cons pe_int pa_nil)) (pa_cons (pe_tup (pa_cons pe_int pa_nil)) (pa_cons (pe_op op_sub pe_int (pe_callB call_abs (by rfl) T.m_abs (by decide +kernel) (pa_cons (pe_call (ok_l_great T) (hr.mono (by decide)) (by rfl) T.g_l_great T.F_l_great.kp T.b_l_great .nil pass0 (pa_cons (pv 0) pa_nil)) pa_nil))) (pa_cons pe_bl (pa_cons pe_dnewK pa_nil)))))))))))))
      (pss_cons (ps_set (i := 4) sc_l_rows_right.nd rfl (Or.inl rfl) (pe_ix ix_list (pv 3) (pe_call (ok_l_digit T) (hr.mono (by decide)) (by rfl) T.g_l_digit T.F_l_digit.kp T.b_l_digit .nil pass0 (pa_cons (pv 0) (pa_cons pe_int pa_nil))) (fun _ _ => rfl)))
      (pss_cons (ps_set (i := 5) sc_l_rows_right.nd rfl (Or.inl rfl) (pe_call (ok_l_digit T) (hr.mono (by decide)) (by rfl) T.g_l_digit T.F_l_digit.kp T.b_l_digit .nil pass0 (pa_cons (pv 0) (pa_cons (pe_op op_add (pe_callB call_len_seq (by rfl) T.m_len (by decide +kernel) (pa_cons (pv 1) pa_nil)) pe_int) pa_nil))))
      (pss_cons (ps_set (i := 6) sc_l_rows_right.nd rfl (Or.inl rfl) (pe_op op_cat (pe_op op_cat (pe_slice sl_list (pv 1) po_none (po_some (pv 5))) (pe_lst (pa_cons (pv 4) pa_nil))) (pe_slice sl_list (pv 1) (po_some (pv 5)) po_none)))
      (pss_cons (ps_set (i := 7) sc_l_rows_right.nd rfl (Or.inl rfl) (pe_ix ix_list (pe_lst (pa_cons (pe_callTy call_tuple_of (by rfl) T.m_tuple (by decide +kernel) (pa_cons (pv 1) pa_nil)) (pa_cons pe_non (pa_cons pe_str (pa_cons pe_str (pa_cons pe_int (pa_cons pe_dnewK (pa_cons (pe_tup pa_nil) (pa_cons pe_bl (pa_cons (pe_callTy (call_dictP rfl) (by rfl) T.m_dict (by decide +kernel) (pa_cons (pe_lc (own := [("_law_k", 9)]) (g := gName 9) (tt := tYes) (by rfl) sc_l_rows_right.nd (pi_list (pv 1)) (blkOk_by (own := [("_law_k", 9)]) (N := N_l_rows_right) (sc := defScope s_l_rows_right) (by decide +kernel)) (fun _ _ _ _ _ => (pg_name (i := 9) sc_l_rows_right.nd rfl (Or.inl rfl))) (fun _ _ _ _ _ => pts_nil) (fun _ _ _ _ _ => (pe_tup (pa_cons (pv 9) (pa_cons (pv 9) pa_nil))))) pa_nil)) (pa_cons (pe_lst (pa_cons (pv 1) pa_nil)) pa_nil))))))))))) (pe_call (ok_l_digit T) (hr.mono (by decide)) (by rfl) T.g_l_digit T.F_l_digit.kp T.b_l_digit .nil pass0 (pa_cons (pv 0) (pa_cons pe_int pa_nil))) (fun _ _ => rfl)))
      (pss_cons (ps_set (i := 8) sc_l_rows_right.nd rfl (Or.inl rfl) (pe_and (pe_callB call_isi (by rfl) T.m_isinstance (by decide +kernel) (pa_cons (pv 4) (pa_cons (pe_bltn (v := .ty "int") (by rfl) T.m_int (by decide +kernel) rfl) pa_nil))) (pe_and (pe_not (pe_callB call_isi (by rfl) T.m_isinstance (by decide +kernel) (pa_cons (pv 4) (pa_cons (pe_bltn (v := .ty "bool") (by rfl) T.m_bool (by decide +kernel) rfl) pa_nil)))) (pe_one (pe_chainI op_le op_le pe_int (pv 4) pe_int mn_c mn_var mn_c sh_c)))))
      (pss_one (ps_ret (pe_and (pe_call (ok_l_truth T) (hr.mono (by decide)) (by rfl) T.g_l_truth T.F_l_truth.kp T.b_l_truth .nil pass0 (pa_cons (pe_call (ok_is_bytes T) (hr.mono (by decide)) (by rfl) T.g_is_bytes T.F_is_bytes.kp T.b_is_bytes .nil pass0 (pa_cons (pv 6) pa_nil)) (pa_cons (pv 8) pa_nil))) (pe_and (pe_cmpR op_is_bl (pe_call (ok_is_bytes T) (hr.mono (by decide)) (by rfl) T.g_is_bytes T.F_is_bytes.kp T.b_is_bytes .nil pass0 (pa_cons (pv 7) pa_nil)) pe_bl (nomark _)) (pe_one (pe_cmpR op_is_bl (pe_call (ok_is_bytes T) (hr.mono (by decide)) (by rfl) T.g_is_bytes T.F_is_bytes.kp T.b_is_bytes .nil pass0 (pa_cons (pv 1) pa_nil)) pe_bl (nomark _)))))))))))))))), ?_⟩
    repeat' walk_at "g"
    refine ⟨_, _, rfl, hp, hx, fun H1 xs1 r ns f1 h1 st1 hr1 nrp l60 hb => ?_⟩
    -- held = list(row)
    repeat' walk_at "g"
    intro l nl
    repeat' walk_at "g"
    refine .inl ⟨_, _, rfl, by walk_at "hp", ints_things, ?_⟩
    rw [bytes_ok hb]
    repeat' walk_at "g"
    refine neqInts (SqL.of (by walk_at "hp")) (SqL.of (by walk_at "hp")) ?_
    rw [decide_eq_true (rfl : ns = ns)]
    -- odd
    repeat' walk_at "g"
    refine ⟨_, _, rfl, by walk_at "hp", by assumption, fun _ _ _ _ _ _ => ?_⟩
    repeat' walk_at "g"
    intro e0 ne0
    repeat' walk_at "g"
    walk_at "dg"
    rename_i H2 d2 xs2 f2 h2 st2 d20 d211
    refine' ixP (fun v => Thing K H2 v ∧ v ≠ .ref p) (SqL.of ?h) d20 ?h1 ?al (fun v hv => ?_)
    case h => walk_at "hp"
    case h1 => exact d211
    case al =>
      intro v hv
      simp only [List.mem_cons, List.not_mem_nil, or_false] at hv
      rcases hv with rfl | rfl | rfl | rfl | rfl | rfl | rfl | rfl | rfl | rfl | rfl
      · exact ⟨.int _, fun z => nomatch z⟩
      · exact ⟨.int _, fun z => nomatch z⟩
      · exact ⟨.odd (.base (.bl _)) (by simp [others]) rfl, fun z => nomatch z⟩
      · exact ⟨.odd (.base .non) (by simp [others]) rfl, fun z => nomatch z⟩
      · exact ⟨.odd (.base (.str _)) (by simp [others]) rfl, fun z => nomatch z⟩
      · exact ⟨.odd (.base (.str _)) (by simp [others]) rfl, fun z => nomatch z⟩
      · exact ⟨.odd (.base (.lst (by walk_at "hp"))) (by simp [others]) rfl, fun z => (show _ ≠ p by walk_at "ne") (V.ref.inj z)⟩
      · exact ⟨.odd (.base (.tup (by walk_at "hp"))) (by simp [others]) rfl, fun z => (show _ ≠ p by walk_at "ne") (V.ref.inj z)⟩
      · exact ⟨.int _, fun z => nomatch z⟩
      · exact ⟨.odd (.base (.bl _)) (by simp [others]) rfl, fun z => nomatch z⟩
      · exact ⟨.odd (.base (.dK (by walk_at "hp"))) (by simp [others]) rfl, fun z => (show _ ≠ p by walk_at "ne") (V.ref.inj z)⟩
    obtain ⟨th, hvp⟩ := hv
    have hlen : (ns.map V.int).length ≤ 60 := by rw [List.length_map]; exact l60
    have hrow : H2 r = some (.lst (ns.map V.int)) := by walk_at "hp"
    -- at
    repeat' walk_at "g"
    walk_at "dg"
    rename_i H3 at3 xs3 f3 h3 st3 at0 at1
    -- spoilt
    repeat' walk_at "g"
    have cl1 := cutV_length (ns.map V.int) none (some at3)
    have cl2 := cutV_length (ns.map V.int) (some at3) none
    refine ⟨_, _, _, _, rfl, rfl, by walk_at "hp", by walk_at "hp", szn (by simp only [List.length]; omega), fun c1 nc1 => ?_⟩
    repeat' walk_at "g"
    refine ⟨_, _, _, _, rfl, rfl, by walk_at "hp", by walk_at "hp", szn (by simp only [List.length_append, List.length]; omega), fun c2 nc2 => ?_⟩
    have c2p : c2 ≠ p := by walk_at "ne"
    -- bad
    repeat' walk_at "g"
    refine ⟨_, _, rfl, .inl ⟨SqL.of (by walk_at "hp"), fun tu ntu => ?_⟩⟩
    repeat' walk_at "g"
    intro e1 ne1
    repeat' walk_at "g"
    refine ⟨⟨_, SqL.of (by walk_at "hp")⟩, fun D nD => ?_⟩
    refine lcL (K := K) (a := r) (xs := ns.map V.int) (fun Hc i H' => Same Hc H' ∧ Hc D = none ∧ Hc r = some (.lst (ns.map V.int)) ∧ ∃ ps : List Addr, H' D = some (.lst (ps.map V.ref)) ∧ ps.length = i ∧ Paired (fun q (kv : Key × V) => H' q = some (.tup [kV kv.1, kv.2])) ps ((ns.take i).map fun n => ((Sum.inl n : Key), V.int n))) ?_ ?_ ?_ ?_
    · exact ⟨by walk_at "fr", nD, by walk_at "hp", [], upd_same, rfl, .nil⟩
    · rintro i H4 _ ⟨s4, _, hr4, _⟩
      exact SqL.of (s4 _ _ hr4)
    · rintro i x H4 hi ⟨s4, nD4, hr4, ps, hD, hl, hP⟩
      rw [List.getElem?_map] at hi
      obtain ⟨n, hn, rfl⟩ := Option.map_eq_some_iff.mp hi
      refine ⟨rfl, ?_⟩
      have hi2 : i < ns.length := (List.getElem?_eq_some_iff.mp hn).1
      refine ⟨_, rfl, _, rfl, sz rfl, fun Tn nTn => ?_⟩
      refine ⟨_, by walk_at "hp", sznl (by rw [List.length_map]; omega), by walk_at "fr", nD4, hr4, ps ++ [Tn], ?_, by rw [List.length_append, hl]; rfl, ?_⟩
      · rw [upd_same, List.map_append]; rfl
      · rw [List.take_add_one, hn, List.map_append]
        refine Paired.snoc (Paired.mono (fun a b h => ?_) hP) ?_
        · have nb : a ≠ D := ne_of h hD (fun z => nomatch z)
          exact upd_oth nb (upd_old nTn h)
        · have nb : Tn ≠ D := new_ne nTn hD
          exact upd_oth nb upd_same
    · rintro H4 ⟨s4, nD4, hr4, ps, hD, hl, hP⟩
      refine ⟨_, _, _, rfl, SqL.of hD, Paired.mono (fun a b h => SqT.of h) hP, fun dd ndd => ?_⟩
      repeat' walk_at "g"
      walk_at "dg"
      rename_i one none1 ten nten H5 d5 xs5 f5 h5 st5 d50 d510
      refine' ixP (fun v => Bad K H5 v) (SqL.of ?h) d50 ?h1 ?al (fun bv hbv => ?_)
      case h => walk_at "hp"
      case h1 => exact d510
      case al =>
        intro v hv
        simp only [List.mem_cons, List.not_mem_nil, or_false] at hv
        rcases hv with rfl | rfl | rfl | rfl | rfl | rfl | rfl | rfl | rfl | rfl
        · exact .odd (.base (.tup (by walk_at "hp"))) (by simp [nolist])
        · exact .odd (.base .non) (by simp [nolist])
        · exact .odd (.base (.str _)) (by simp [nolist])
        · exact .odd (.base (.str _)) (by simp [nolist])
        · exact .odd (.base (.int _)) (by simp [nolist])
        · exact .odd (.base (.dK (by walk_at "hp"))) (by simp [nolist])
        · exact .odd (.base (.tup (by walk_at "hp"))) (by simp [nolist])
        · exact .odd (.base (.bl _)) (by simp [nolist])
        · exact .odd (.base (.dK (by walk_at "hp"))) (by simp [nolist])
        · refine .lst (xs := [.ref r]) (by walk_at "hp") (fun x hx => ?_) rfl
          rw [List.mem_singleton.mp hx]
          exact .odd (.base (.lst (xs := ns.map V.int) (by walk_at "hp"))) (by simp [others]) rfl
      have thf : Thing K H5 v := th.keep fun b o e h => by
        have nb : b ≠ p := fun z => hvp (by rw [e, z])
        walk_at "hp"
      have hsp : ∀ x ∈ cutV (ns.map V.int) none (some at3) ++ [v] ++ cutV (ns.map V.int) (some at3) none, Thing K H5 x := fun x hx => by
        rcases List.mem_append.mp hx with hx | hx
        · rcases List.mem_append.mp hx with hx | hx
          · exact ints_things x (cutV_mem hx)
          · rw [List.mem_singleton.mp hx]; exact thf
        · exact ints_things x (cutV_mem hx)
      have hc2 : H5 c2 = some (.lst (cutV (ns.map V.int) none (some at3) ++ [v] ++ cutV (ns.map V.int) (some at3) none)) := by walk_at "hp"
      have hr5 : H5 r = some (.lst (ns.map V.int)) := by walk_at "hp"
      have f05 : Frm p H H5 := by walk_at "fr"
      have hsa := spoilt_all (a := at3) (v := v) (bytes_ok hb)
      clear f5 hP hl hD s4 nD4 hr4 nD ne1 nc2 nc1 f3 th f2
      have fin : ∀ b : Bool, b = inB 0 255 v → (inB 0 255 v == b) = true := fun b e => by rw [e]; simp
      repeat' walk_at "g"
      cases thf with
      | int i =>
        refine ⟨_, _, _, _, true, rfl, .ty _, .base (.int i), kit_ty (by decide +kernel), ?_⟩
        repeat' walk_at "g"
        refine ⟨_, _, _, _, false, rfl, .ty _, .base (.int i), kit_ty (by decide +kernel), ?_⟩
        repeat' walk_at "g"
        refine ⟨_, _, _, rfl, rfl, rfl, rfl, ?_⟩
        repeat' walk_at "g"
        refine .inl ⟨_, _, rfl, hc2, hsp, ?_⟩
        repeat' walk_at "g"
        refine ⟨_, _, rfl, fun H6 s6 => ?_⟩
        have hb6 := hbv.same s6
        have hr6 := s6 _ _ hr5
        refine ⟨_, rfl, ifT (by rw [hsa]; exact fin _ rfl) ?_⟩
        repeat' walk_at "g"
        cases hb6 with
        | lst e t n =>
          refine .inl ⟨_, _, rfl, e, t, ?_⟩
          rw [n]
          repeat' walk_at "g"
          refine .inl ⟨_, _, rfl, hr6, ints_things, ?_⟩
          rw [bytes_ok hb]
          repeat' walk_at "g"
          exact q _ _ (by walk_at "fr") (by walk_at "hp") st5
        | odd ty m =>
          refine .inr ⟨_, ty, m, ?_⟩
          repeat' walk_at "g"
          refine .inl ⟨_, _, rfl, hr6, ints_things, ?_⟩
          rw [bytes_ok hb]
          repeat' walk_at "g"
          exact q _ _ (by walk_at "fr") (by walk_at "hp") st5
      | @odd _ t ty m n =>
        have hv0 : inB 0 255 v = false := inB_odd n
        simp only [others, List.mem_cons, List.not_mem_nil, or_false] at m
        rcases m with rfl | rfl | rfl | rfl | rfl | rfl
        · refine ⟨_, _, _, _, true, rfl, .ty _, ty, kit_ty (by decide +kernel), ?_⟩
          repeat' walk_at "g"
          refine ⟨_, _, _, _, true, rfl, .ty _, ty, kit_ty (by decide +kernel), ?_⟩
          repeat' walk_at "g"
          refine .inl ⟨_, _, rfl, hc2, hsp, ?_⟩
          repeat' walk_at "g"
          refine ⟨_, _, rfl, fun H6 s6 => ?_⟩
          have hb6 := hbv.same s6
          have hr6 := s6 _ _ hr5
          refine ⟨_, rfl, ifT (by rw [hsa]; exact fin _ hv0.symm) ?_⟩
          repeat' walk_at "g"
          cases hb6 with
          | lst e t n =>
            refine .inl ⟨_, _, rfl, e, t, ?_⟩
            rw [n]
            repeat' walk_at "g"
            refine .inl ⟨_, _, rfl, hr6, ints_things, ?_⟩
            rw [bytes_ok hb]
            repeat' walk_at "g"
            exact q _ _ (by walk_at "fr") (by walk_at "hp") st5
          | odd ty m =>
            refine .inr ⟨_, ty, m, ?_⟩
            repeat' walk_at "g"
            refine .inl ⟨_, _, rfl, hr6, ints_things, ?_⟩
            rw [bytes_ok hb]
            repeat' walk_at "g"
            exact q _ _ (by walk_at "fr") (by walk_at "hp") st5
        all_goals
          refine ⟨_, _, _, _, false, rfl, .ty _, ty, kit_ty (by decide +kernel), ?_⟩
          repeat' walk_at "g"
          refine .inl ⟨_, _, rfl, hc2, hsp, ?_⟩
          repeat' walk_at "g"
          refine ⟨_, _, rfl, fun H6 s6 => ?_⟩
          have hb6 := hbv.same s6
          have hr6 := s6 _ _ hr5
          refine ⟨_, rfl, ifT (by rw [hsa]; exact fin _ hv0.symm) ?_⟩
          repeat' walk_at "g"
          cases hb6 with
          | lst e t n =>
            refine .inl ⟨_, _, rfl, e, t, ?_⟩
            rw [n]
            repeat' walk_at "g"
            refine .inl ⟨_, _, rfl, hr6, ints_things, ?_⟩
            rw [bytes_ok hb]
            repeat' walk_at "g"
            exact q _ _ (by walk_at "fr") (by walk_at "hp") st5
          | odd ty m =>
            refine .inr ⟨_, ty, m, ?_⟩
            repeat' walk_at "g"
            refine .inl ⟨_, _, rfl, hr6, ints_things, ?_⟩
            rw [bytes_ok hb]
            repeat' walk_at "g"
            exact q _ _ (by walk_at "fr") (by walk_at "hp") st5
end

def spLaw (K : PySem.W.Frag) : Sp := fun vs H Q _ => ∃ (a : Addr) (ns : List Int), vs = [.ref a] ∧ SqL K H a (ns.map V.int) ∧ ns.length ≤ 63 ∧ ∀ H', Q (.bl true) H'
section
variable {P : Program} {w : World} {K : PySem.W.Frag} {mg : Str → Option Value} {base : Heap}
theorem ok_law (T : Txt K mg) : FnOk P w K mg base CX0 5 T.a_law T.d_law ["_law_script"] (spLaw K) := by
  refine T.F_law.ok sc_law (fun vs H Q E h => ?_) (fun cdv A outer s H vs Q E hr h => ?_)
  · obtain ⟨a, ns, rfl, _⟩ := h
    rfl
  · obtain ⟨a, ns, rfl, hS, hlen, q⟩ := h
    refine ⟨_, (pss_cons (ps_set (i := 1) sc_law.nd rfl (Or.inl rfl) (pe_lst (pa_cons (pe_call (ok_l_cell_at T) (hr.mono (by decide)) (by rfl) T.g_l_cell_at T.F_l_cell_at.kp T.b_l_cell_at .nil pass0 (pa_cons (pv 0) (pa_cons pe_int pa_nil))) pa_nil)))
      (pss_cons (ps_for PassesOwn.never rfl (pi_list (pe_op op_cat (pe_lst (pa_cons pe_int pa_nil)) (pe_slice sl_list (pv 0) (po_some pe_int) (po_some pe_int)))) (pg_name (i := 2) sc_law.nd rfl (Or.inl rfl))
        (pss_one (ps_if (PW.pt (pw_or (pt_not (pt_val (pe_call (ok_l_whole_right T) (hr.mono (by decide)) (by rfl) T.g_l_whole_right T.F_l_whole_right.kp T.b_l_whole_right .nil pass0 (pa_cons (pe_lst (pa_cons (pv 2) pa_nil)) pa_nil)))) (pw_or1 (pt_not (pt_val (pe_call (ok_l_rows_right T) (hr.mono (by decide)) (by rfl) T.g_l_rows_right T.F_l_rows_right.kp T.b_l_rows_right .nil pass0 (pa_cons (pe_lst (pa_cons (pv 2) pa_nil)) pa_nil))))))) (pss_one (ps_ret pe_bl)) pss_nil)))
      (pss_one (ps_ret (pe_and (pe_call (ok_l_whole_right T) (hr.mono (by decide)) (by rfl) T.g_l_whole_right T.F_l_whole_right.kp T.b_l_whole_right .nil pass0 (pa_cons (pv 1) pa_nil)) (pe_one (pe_call (ok_l_rows_right T) (hr.mono (by decide)) (by rfl) T.g_l_rows_right T.F_l_rows_right.kp T.b_l_rows_right .nil pass0 (pa_cons (pv 1) pa_nil)))))))), ?_⟩
    repeat' walk_at "g"
    refine ⟨_, _, _, rfl, hS, by decide, fun n _ => ?_⟩
    repeat' walk_at "g"
    rename_i p np z nz
    refine ⟨_, _, rfl, Same.seq (by walk_at "fr") hS, fun sl nsl => ?_⟩
    have cl := cutV_length (ns.map V.int) (some 1) (some 13)
    rw [List.length_map] at cl
    refine ⟨_, _, _, _, rfl, rfl, by walk_at "hp", by walk_at "hp", szn (by simp only [List.length]; omega), fun c nc => ?_⟩
    refine ⟨_, rfl, ⟨_, SqL.of (by walk_at "hp")⟩, ?_⟩
    refine forL (K := K) (a := c) (xs := [.int 0] ++ cutV (ns.map V.int) (some 1) (some 13)) (fun _ _ σ H' => H' p = some (.lst [.int n]) ∧ H' c = some (.lst ([.int 0] ++ cutV (ns.map V.int) (some 1) (some 13))) ∧ ∃ y, σ = [some (.ref a), some (.ref p), y]) ?_ ?_ ?_ ?_
    · exact ⟨by walk_at "hp", upd_same, _, rfl⟩
    · rintro i σ H1 _ ⟨_, hc, _⟩
      exact SqL.of hc
    · rintro i x σ H1 hi ⟨hp, hc, y, rfl⟩
      obtain ⟨m, rfl⟩ : ∃ m, x = .int m := by
        rcases List.mem_append.mp (List.mem_of_getElem? hi) with h | h
        · exact ⟨0, List.mem_singleton.mp h⟩
        · obtain ⟨m, _, e⟩ := List.mem_map.mp (cutV_mem h)
          exact ⟨m, e.symm⟩
      repeat' walk_at "g"
      refine ⟨_, _, rfl, upd_same, .inl ⟨_, rfl⟩, fun H2 xs2 f2 h2 st2 => ?_⟩
      repeat' walk_at "g"
      refine ⟨_, _, rfl, upd_same, .inl ⟨_, rfl⟩, fun H3 xs3 f3 h3 st3 => ?_⟩
      repeat' walk_at "g"
      exact ⟨by walk_at "hp", by walk_at "hp", _, rfl⟩
    · rintro σ H1 ⟨hp, hc, y, rfl⟩
      repeat' walk_at "g"
      refine ⟨_, _, rfl, hp, .inl ⟨_, rfl⟩, fun H2 xs2 f2 h2 st2 => ?_⟩
      repeat' walk_at "g"
      refine ⟨_, _, rfl, h2, st2, fun H3 xs3 f3 h3 st3 => ?_⟩
      exact q _
end
theorem all_mk {l : PySem.W.OpenLaw} {w : World} {K : PySem.W.Frag} {h : Heap} {mg : Str → Option Value} {fa : Addr} (X : K.In h) (G : h.Ns mainGlobals mg) (hfa : mg "law" = some (.ref fa))
    {f0 : Addr} {od0 an0 : Option Addr} {sl0 : Array (Option Value)} {oc0 kV0 dc0 pm0 cd0 ct0 : Value}
    (a0 : PySem.W.nsIn K mainGlobals "is_number" = some (some (.ref f0))) (l0 : K.lookup f0 = some ⟨oc0, od0, .func (PySem.W.fnOf "is_number" "is_number" (defArgs s_is_number) (defBody s_is_number) (defScope s_is_number) .none kV0 dc0 pm0 an0 cd0 ct0), sl0⟩) (c0 : PySem.W.codeIn K cd0 "is_number" = true) (k0 : PySem.W.keepIn K (.ref f0) = true)
    {f1 : Addr} {od1 an1 : Option Addr} {sl1 : Array (Option Value)} {oc1 kV1 dc1 pm1 cd1 ct1 : Value}
    (a1 : PySem.W.nsIn K mainGlobals "is_whole" = some (some (.ref f1))) (l1 : K.lookup f1 = some ⟨oc1, od1, .func (PySem.W.fnOf "is_whole" "is_whole" (defArgs s_is_whole) (defBody s_is_whole) (defScope s_is_whole) .none kV1 dc1 pm1 an1 cd1 ct1), sl1⟩) (c1 : PySem.W.codeIn K cd1 "is_whole" = true) (k1 : PySem.W.keepIn K (.ref f1) = true)
    {f2 : Addr} {od2 an2 : Option Addr} {sl2 : Array (Option Value)} {oc2 kV2 dc2 pm2 cd2 ct2 : Value}
    (a2 : PySem.W.nsIn K mainGlobals "is_bytes" = some (some (.ref f2))) (l2 : K.lookup f2 = some ⟨oc2, od2, .func (PySem.W.fnOf "is_bytes" "is_bytes" (defArgs s_is_bytes) (defBody s_is_bytes) (defScope s_is_bytes) .none kV2 dc2 pm2 an2 cd2 ct2), sl2⟩) (c2 : PySem.W.codeIn K cd2 "is_bytes" = true) (k2 : PySem.W.keepIn K (.ref f2) = true)
    {f3 : Addr} {od3 an3 : Option Addr} {sl3 : Array (Option Value)} {oc3 kV3 dc3 pm3 cd3 ct3 : Value}
    (a3 : PySem.W.nsIn K mainGlobals "_law_cell_at" = some (some (.ref f3))) (l3 : K.lookup f3 = some ⟨oc3, od3, .func (PySem.W.fnOf "_law_cell_at" "_law_cell_at" (defArgs s_l_cell_at) (defBody s_l_cell_at) (defScope s_l_cell_at) .none kV3 dc3 pm3 an3 cd3 ct3), sl3⟩) (c3 : PySem.W.codeIn K cd3 "_law_cell_at" = true) (k3 : PySem.W.keepIn K (.ref f3) = true)
    {f4 : Addr} {od4 an4 : Option Addr} {sl4 : Array (Option Value)} {oc4 kV4 dc4 pm4 cd4 ct4 : Value}
    (a4 : PySem.W.nsIn K mainGlobals "_law_digit" = some (some (.ref f4))) (l4 : K.lookup f4 = some ⟨oc4, od4, .func (PySem.W.fnOf "_law_digit" "_law_digit" (defArgs s_l_digit) (defBody s_l_digit) (defScope s_l_digit) .none kV4 dc4 pm4 an4 cd4 ct4), sl4⟩) (c4 : PySem.W.codeIn K cd4 "_law_digit" = true) (k4 : PySem.W.keepIn K (.ref f4) = true)
    {f5 : Addr} {od5 an5 : Option Addr} {sl5 : Array (Option Value)} {oc5 kV5 dc5 pm5 cd5 ct5 : Value}
    (a5 : PySem.W.nsIn K mainGlobals "_law_truth" = some (some (.ref f5))) (l5 : K.lookup f5 = some ⟨oc5, od5, .func (PySem.W.fnOf "_law_truth" "_law_truth" (defArgs s_l_truth) (defBody s_l_truth) (defScope s_l_truth) .none kV5 dc5 pm5 an5 cd5 ct5), sl5⟩) (c5 : PySem.W.codeIn K cd5 "_law_truth" = true) (k5 : PySem.W.keepIn K (.ref f5) = true)
    {f6 : Addr} {od6 an6 : Option Addr} {sl6 : Array (Option Value)} {oc6 kV6 dc6 pm6 cd6 ct6 : Value}
    (a6 : PySem.W.nsIn K mainGlobals "_law_great" = some (some (.ref f6))) (l6 : K.lookup f6 = some ⟨oc6, od6, .func (PySem.W.fnOf "_law_great" "_law_great" (defArgs s_l_great) (defBody s_l_great) (defScope s_l_great) .none kV6 dc6 pm6 an6 cd6 ct6), sl6⟩) (c6 : PySem.W.codeIn K cd6 "_law_great" = true) (k6 : PySem.W.keepIn K (.ref f6) = true)
    {f7 : Addr} {od7 an7 : Option Addr} {sl7 : Array (Option Value)} {oc7 kV7 dc7 pm7 cd7 ct7 : Value}
    (a7 : PySem.W.nsIn K mainGlobals "_law_whole_right" = some (some (.ref f7))) (l7 : K.lookup f7 = some ⟨oc7, od7, .func (PySem.W.fnOf "_law_whole_right" "_law_whole_right" (defArgs s_l_whole_right) (defBody s_l_whole_right) (defScope s_l_whole_right) .none kV7 dc7 pm7 an7 cd7 ct7), sl7⟩) (c7 : PySem.W.codeIn K cd7 "_law_whole_right" = true) (k7 : PySem.W.keepIn K (.ref f7) = true)
    {f8 : Addr} {od8 an8 : Option Addr} {sl8 : Array (Option Value)} {oc8 kV8 dc8 pm8 cd8 ct8 : Value}
    (a8 : PySem.W.nsIn K mainGlobals "_law_row" = some (some (.ref f8))) (l8 : K.lookup f8 = some ⟨oc8, od8, .func (PySem.W.fnOf "_law_row" "_law_row" (defArgs s_l_row) (defBody s_l_row) (defScope s_l_row) .none kV8 dc8 pm8 an8 cd8 ct8), sl8⟩) (c8 : PySem.W.codeIn K cd8 "_law_row" = true) (k8 : PySem.W.keepIn K (.ref f8) = true)
    {f9 : Addr} {od9 an9 : Option Addr} {sl9 : Array (Option Value)} {oc9 kV9 dc9 pm9 cd9 ct9 : Value}
    (a9 : PySem.W.nsIn K mainGlobals "_law_rows_right" = some (some (.ref f9))) (l9 : K.lookup f9 = some ⟨oc9, od9, .func (PySem.W.fnOf "_law_rows_right" "_law_rows_right" (defArgs s_l_rows_right) (defBody s_l_rows_right) (defScope s_l_rows_right) .none kV9 dc9 pm9 an9 cd9 ct9), sl9⟩) (c9 : PySem.W.codeIn K cd9 "_law_rows_right" = true) (k9 : PySem.W.keepIn K (.ref f9) = true)
    {f10 : Addr} {od10 an10 : Option Addr} {sl10 : Array (Option Value)} {oc10 kV10 dc10 pm10 cd10 ct10 : Value}
    (a10 : PySem.W.nsIn K mainGlobals "law" = some (some (.ref f10))) (l10 : K.lookup f10 = some ⟨oc10, od10, .func (PySem.W.fnOf "law" "law" (defArgs s_law) (defBody s_law) (defScope s_law) .none kV10 dc10 pm10 an10 cd10 ct10), sl10⟩) (c10 : PySem.W.codeIn K cd10 "law" = true) (k10 : PySem.W.keepIn K (.ref f10) = true)
    (z_abs : PySem.W.nsIn K mainGlobals "abs" = some none)
    (z_bool : PySem.W.nsIn K mainGlobals "bool" = some none)
    (z_dict : PySem.W.nsIn K mainGlobals "dict" = some none)
    (z_int : PySem.W.nsIn K mainGlobals "int" = some none)
    (z_isinstance : PySem.W.nsIn K mainGlobals "isinstance" = some none)
    (z_len : PySem.W.nsIn K mainGlobals "len" = some none)
    (z_list : PySem.W.nsIn K mainGlobals "list" = some none)
    (z_range : PySem.W.nsIn K mainGlobals "range" = some none)
    (z_str : PySem.W.nsIn K mainGlobals "str" = some none)
    (z_tuple : PySem.W.nsIn K mainGlobals "tuple" = some none)
    : ∃ fd : FuncData, (∀ (s : Shared) (v : Value), BindsTo s fd ⟨[v], []⟩ [("_law_script", v)]) ∧ ∀ base : Heap, K.In base → base.Ns mainGlobals mg → FnOk l.prog w K mg base CX0 5 fa fd ["_law_script"] (spLaw K) := by
  have e := hfa.symm.trans (PySem.W.mg_of X G a10)
  cases e
  have F0 := fun_mk (st := s_is_number) l0 c0 k0
  have F1 := fun_mk (st := s_is_whole) l1 c1 k1
  have F2 := fun_mk (st := s_is_bytes) l2 c2 k2
  have F3 := fun_mk (st := s_l_cell_at) l3 c3 k3
  have F4 := fun_mk (st := s_l_digit) l4 c4 k4
  have F5 := fun_mk (st := s_l_truth) l5 c5 k5
  have F6 := fun_mk (st := s_l_great) l6 c6 k6
  have F7 := fun_mk (st := s_l_whole_right) l7 c7 k7
  have F8 := fun_mk (st := s_l_row) l8 c8 k8
  have F9 := fun_mk (st := s_l_rows_right) l9 c9 k9
  have F10 := fun_mk (st := s_law) l10 c10 k10
  have b0 := F0.binds (ps := ["thing"]) fun _ _ _ _ _ _ us hl => match us, hl with | [_], _ => rfl
  have b1 := F1.binds (ps := ["thing", "low", "high"]) fun _ _ _ _ _ _ us hl => match us, hl with | [_, _, _], _ => rfl
  have b2 := F2.binds (ps := ["thing"]) fun _ _ _ _ _ _ us hl => match us, hl with | [_], _ => rfl
  have b3 := F3.binds (ps := ["_law_script", "_law_k"]) fun _ _ _ _ _ _ us hl => match us, hl with | [_, _], _ => rfl
  have b4 := F4.binds (ps := ["_law_state", "_law_base"]) fun _ _ _ _ _ _ us hl => match us, hl with | [_, _], _ => rfl
  have b5 := F5.binds (ps := ["_law_found", "_law_due"]) fun _ _ _ _ _ _ us hl => match us, hl with | [_, _], _ => rfl
  have b6 := F6.binds (ps := ["_law_state"]) fun _ _ _ _ _ _ us hl => match us, hl with | [_], _ => rfl
  have b7 := F7.binds (ps := ["_law_state"]) fun _ _ _ _ _ _ us hl => match us, hl with | [_], _ => rfl
  have b8 := F8.binds (ps := ["_law_state"]) fun _ _ _ _ _ _ us hl => match us, hl with | [_], _ => rfl
  have b9 := F9.binds (ps := ["_law_state"]) fun _ _ _ _ _ _ us hl => match us, hl with | [_], _ => rfl
  have b10 := F10.binds (ps := ["_law_script"]) fun _ _ _ _ _ _ us hl => match us, hl with | [_], _ => rfl
  have kb_is_whole_thing_low_high := kbAll (F := F1) (ps := ["thing", "low", "high"]) (n := 0) (ks := ["thing", "low", "high"]) (g := fun us ws => kg_is_whole_thing_low_high us ws) (fun _ _ _ _ _ _ us ws h1 h2 => match us, ws, h1, h2 with | [], [_, _, _], _, _ => rfl) (fun ru r => by
    cases ru with
    | cons _ _ => exact .nil
    | nil =>
      cases r with
      | nil => exact .nil
      | cons w0 r =>
        cases r with
        | nil => exact .nil
        | cons w1 r =>
          cases r with
          | nil => exact .nil
          | cons w2 r =>
            cases r with
            | nil => exact .cons w0 (.cons w1 (.cons w2 (.nil)))
            | cons _ _ => exact .nil)
  exact ⟨_, fun s v => .of_eq rfl, fun base _ _ => ok_law { a_is_number := _, d_is_number := _, F_is_number := F0, g_is_number := PySem.W.mg_of X G a0, b_is_number := b0, a_is_whole := _, d_is_whole := _, F_is_whole := F1, g_is_whole := PySem.W.mg_of X G a1, b_is_whole := b1, a_is_bytes := _, d_is_bytes := _, F_is_bytes := F2, g_is_bytes := PySem.W.mg_of X G a2, b_is_bytes := b2, a_l_cell_at := _, d_l_cell_at := _, F_l_cell_at := F3, g_l_cell_at := PySem.W.mg_of X G a3, b_l_cell_at := b3, a_l_digit := _, d_l_digit := _, F_l_digit := F4, g_l_digit := PySem.W.mg_of X G a4, b_l_digit := b4, a_l_truth := _, d_l_truth := _, F_l_truth := F5, g_l_truth := PySem.W.mg_of X G a5, b_l_truth := b5, a_l_great := _, d_l_great := _, F_l_great := F6, g_l_great := PySem.W.mg_of X G a6, b_l_great := b6, a_l_whole_right := _, d_l_whole_right := _, F_l_whole_right := F7, g_l_whole_right := PySem.W.mg_of X G a7, b_l_whole_right := b7, a_l_row := _, d_l_row := _, F_l_row := F8, g_l_row := PySem.W.mg_of X G a8, b_l_row := b8, a_l_rows_right := _, d_l_rows_right := _, F_l_rows_right := F9, g_l_rows_right := PySem.W.mg_of X G a9, b_l_rows_right := b9, a_law := _, d_law := _, F_law := F10, g_law := PySem.W.mg_of X G a10, b_law := b10, kb_is_whole_thing_low_high := kb_is_whole_thing_low_high, m_abs := PySem.W.mg_none_of X G z_abs, m_bool := PySem.W.mg_none_of X G z_bool, m_dict := PySem.W.mg_none_of X G z_dict, m_int := PySem.W.mg_none_of X G z_int, m_isinstance := PySem.W.mg_none_of X G z_isinstance, m_len := PySem.W.mg_none_of X G z_len, m_list := PySem.W.mg_none_of X G z_list, m_range := PySem.W.mg_none_of X G z_range, m_str := PySem.W.mg_none_of X G z_str, m_tuple := PySem.W.mg_none_of X G z_tuple }⟩
end LK
open PySem PySem.W PyProof.Rows
set_option maxHeartbeats 0 in
theorem PySem.Challenge.cw_lanescroll_k03_what_is_none_holds : PySem.Challenge.rw_lanescroll_k03_what_is_none.Holds := by
  w_on; o_law; k_head; (case hw => w_witness2)
  k_fill
  refine L2.walk_of (l := PySem.Challenge.rw_lanescroll_k03_what_is_none) (n := 63) (k := 5) (x := "_law_script") (CX := fun _ => L2.CX0) (sp := fun w => LK.spLaw _) rfl (by decide) rfl ⟨rfl, by decide, by decide⟩ (fun w h Y => PySem.W.kIn_of Y) ?F (fun _ _ a ns hl _ hS => ⟨a, ns, rfl, hS, hl, fun _ => rfl⟩) (fun _ _ _ _ _ h => h)
  case F =>
    intro w mg fa h KX G hmg
    refine' LK.all_mk KX G hmg ?a0 ?l0 ?c0 ?k0 ?a1 ?l1 ?c1 ?k1 ?a2 ?l2 ?c2 ?k2 ?a3 ?l3 ?c3 ?k3 ?a4 ?l4 ?c4 ?k4 ?a5 ?l5 ?c5 ?k5 ?a6 ?l6 ?c6 ?k6 ?a7 ?l7 ?c7 ?k7 ?a8 ?l8 ?c8 ?k8 ?a9 ?l9 ?c9 ?k9 ?a10 ?l10 ?c10 ?k10 ?z_abs ?z_bool ?z_dict ?z_int ?z_isinstance ?z_len ?z_list ?z_range ?z_str ?z_tuple
    (case a0 => k_is)
    (case l0 => k_is)
    (case c0 => k_is)
    (case k0 => k_is)
    (case a1 => k_is)
    (case l1 => k_is)
    (case c1 => k_is)
    (case k1 => k_is)
    (case a2 => k_is)
    (case l2 => k_is)
    (case c2 => k_is)
    (case k2 => k_is)
    (case a3 => k_is)
    (case l3 => k_is)
    (case c3 => k_is)
    (case k3 => k_is)
    (case a4 => k_is)
    (case l4 => k_is)
    (case c4 => k_is)
    (case k4 => k_is)
    (case a5 => k_is)
    (case l5 => k_is)
    (case c5 => k_is)
    (case k5 => k_is)
    (case a6 => k_is)
    (case l6 => k_is)
    (case c6 => k_is)
    (case k6 => k_is)
    (case a7 => k_is)
    (case l7 => k_is)
    (case c7 => k_is)
    (case k7 => k_is)
    (case a8 => k_is)
    (case l8 => k_is)
    (case c8 => k_is)
    (case k8 => k_is)
    (case a9 => k_is)
    (case l9 => k_is)
    (case c9 => k_is)
    (case k9 => k_is)
    (case a10 => k_is)
    (case l10 => k_is)
    (case c10 => k_is)
    (case k10 => k_is)
    (case z_abs => k_is)
    (case z_bool => k_is)
    (case z_dict => k_is)
    (case z_int => k_is)
    (case z_isinstance => k_is)
    (case z_len => k_is)
    (case z_list => k_is)
    (case z_range => k_is)
    (case z_str => k_is)
    (case z_tuple => k_is)
