import PyProof.Rows.All
import Wide.All
import OpenK.AllK
import Wide.FinOn
import HandS.ForMost
import HandS.Walk
import HandS.IsInst
import HandS.Zip
import HandS.Style
import HandS.Codes
import HandS.Defaults
import HandS.Evl
import HandS.More
import HandS.Strs
import HandS.FStr
import HandS.MakeKw
import HandS.MakeKwOnly
import HandS.OwnEq
import HandS.Property
import HandS.Star
import HandS.RaiseMore
import HandS.StrMore
import HandS.Text
import KE.GoesEnum
import KE.GoesMore
import KE.RegKIsAll
import KE.IntTextText
import KE.KIntText
import KE.OsScanText
import PySem.Challenge.RW_leastimage_k15_whole_forms_lead_home
set_option Elab.async false
set_option maxRecDepth 100000
set_option maxHeartbeats 4000000
set_option linter.all false
namespace Kk
open PySem L2 PyProof.Rows
/-! ### the text by places, what the top has written -/
/-- a table of the text: the first entry of a word -/
def findT {α : Type} (l : List (Str × α)) (z : Str) : Option α := (l.find? fun p => decide (p.1 = z)).map (·.2)
def RelOpt {α : Type} (R : α → Value → Prop) : Option α → Option Value → Prop
  | some x, some u => R x u
  | none, none => True
  | _, _ => False
def RelTu (K : PySem.W.Frag) (xs : List V) (u : Value) : Prop := ∃ t, u = .ref t ∧ ∀ H : Hp, SqT K H t xs
theorem find_rel {α : Type} {R : α → Value → Prop} : ∀ {l : List (Str × α)} {m : List (Str × Value)}, Paired (fun (p : Str × α) (q : Str × Value) => p.1 = q.1 ∧ R p.2 q.2) l m → ∀ z, RelOpt R (findT l z) (findT m z)
  | _, _, .nil, _ => trivial
  | p :: l, q :: m, .cons r t, z => by
    unfold findT
    rw [List.find?_cons, List.find?_cons, ← r.1]
    cases decide (p.1 = z) with
    | true => exact r.2
    | false => exact find_rel t z
theorem nsIn_of {K : PySem.W.Frag} {c : Addr} {ty : Value} {dd : Option Addr} {es : Array DictEntry} {n : Nat} {sl : Array (Option Value)} (h : K.lookup c = some ⟨ty, dd, .dict es n, sl⟩) {L : List (Str × Value)}
    (e : Paired (fun (d : DictEntry) (p : Str × Value) => (∃ t, d.key = .str p.1 t) ∧ d.val = p.2) es.toList L) (z : Str) : PySem.W.nsIn K c z = some (findT L z) := by
  unfold PySem.W.nsIn
  rw [h]
  dsimp only
  have k : ∀ (l : List DictEntry) (L : List (Str × Value)), Paired (fun (d : DictEntry) (p : Str × Value) => (∃ t, d.key = .str p.1 t) ∧ d.val = p.2) l L → (l.find? (·.key.isStr z)).map (·.val) = findT L z ∧ l.any (·.refKey) = false := by
    intro l L e
    induction e with
    | nil => exact ⟨rfl, rfl⟩
    | @cons d p l L r _ ih =>
      obtain ⟨⟨t, hk⟩, hv⟩ := r
      have e1 : d.key.isStr z = decide (p.1 = z) := by
        rw [hk]
        show (p.1 == z) = decide (p.1 = z)
        rw [Bool.eq_iff_iff]
        simp
      have e2 : d.refKey = false := by
        unfold DictEntry.refKey
        rw [hk]
      refine ⟨?_, by rw [List.any_cons, e2, ih.2]; rfl⟩
      unfold findT at ih ⊢
      rw [List.find?_cons, List.find?_cons, e1]
      cases decide (p.1 = z) with
      | true => exact congrArg some hv
      | false => exact ih.1
  obtain ⟨k1, k2⟩ := k _ _ e
  cases q : es.toList.find? (·.key.isStr z) with
  | some d =>
    rw [q] at k1
    rw [← k1]
    rfl
  | none =>
    rw [q] at k1
    rw [← k1]
    simp [k2]
def top (i : Nat) : Stmt := PySem.Challenge.pw_leastimage_k15_whole_forms_lead_home.main.body.getD i (.Pass ⟨0, 0, 0, 0⟩)
abbrev s_is_number : Stmt := top 6
abbrev N_is_number : List Str := ["value", "least", "most"]
theorem sc_is_number : FnScope N_is_number ["value", "least", "most"] (defScope s_is_number) := ⟨rfl, rfl, rfl, by decide +kernel, rfl, by decide +kernel, by decide +kernel⟩
abbrev s_cell_of : Stmt := top 9
abbrev N_cell_of : List Str := ["word", "r", "s", "part", "value", "most"]
theorem sc_cell_of : FnScope N_cell_of ["word", "r", "s", "part"] (defScope s_cell_of) := ⟨rfl, rfl, rfl, by decide +kernel, rfl, by decide +kernel, by decide +kernel⟩
abbrev s_with_part : Stmt := top 10
abbrev N_with_part : List Str := ["cell", "part"]
theorem sc_with_part : FnScope N_with_part ["cell", "part"] (defScope s_with_part) := ⟨rfl, rfl, rfl, by decide +kernel, rfl, by decide +kernel, by decide +kernel⟩
abbrev s_high_half : Stmt := top 12
abbrev N_high_half : List Str := ["address"]
theorem sc_high_half : FnScope N_high_half ["address"] (defScope s_high_half) := ⟨rfl, rfl, rfl, by decide +kernel, rfl, by decide +kernel, by decide +kernel⟩
abbrev s_low_half : Stmt := top 13
abbrev N_low_half : List Str := ["address"]
theorem sc_low_half : FnScope N_low_half ["address"] (defScope s_low_half) := ⟨rfl, rfl, rfl, by decide +kernel, rfl, by decide +kernel, by decide +kernel⟩
abbrev s_unsigned : Stmt := top 14
abbrev N_unsigned : List Str := ["value"]
theorem sc_unsigned : FnScope N_unsigned ["value"] (defScope s_unsigned) := ⟨rfl, rfl, rfl, by decide +kernel, rfl, by decide +kernel, by decide +kernel⟩
abbrev s_row_cells : Stmt := top 18
abbrev N_row_cells : List Str := ["row", "at", "target", "long", "word"]
theorem sc_row_cells : FnScope N_row_cells ["row", "at", "target", "long"] (defScope s_row_cells) := ⟨rfl, rfl, rfl, by decide +kernel, rfl, by decide +kernel, by decide +kernel⟩
abbrev s_stub_cells : Stmt := top 19
abbrev N_stub_cells : List Str := ["slot", "loads"]
theorem sc_stub_cells : FnScope N_stub_cells ["slot"] (defScope s_stub_cells) := ⟨rfl, rfl, rfl, by decide +kernel, rfl, by decide +kernel, by decide +kernel⟩
abbrev s_placed : Stmt := top 20
abbrev N_placed : List Str := ["cell", "field", "address"]
theorem sc_placed : FnScope N_placed ["cell", "field", "address"] (defScope s_placed) := ⟨rfl, rfl, rfl, by decide +kernel, rfl, by decide +kernel, by decide +kernel⟩
abbrev s_number : Stmt := top 21
abbrev N_number : List Str := ["name"]
theorem sc_number : FnScope N_number ["name"] (defScope s_number) := ⟨rfl, rfl, rfl, by decide +kernel, rfl, by decide +kernel, by decide +kernel⟩
abbrev s_first_number : Stmt := top 22
abbrev N_first_number : List Str := ["row"]
theorem sc_first_number : FnScope N_first_number ["row"] (defScope s_first_number) := ⟨rfl, rfl, rfl, by decide +kernel, rfl, by decide +kernel, by decide +kernel⟩
abbrev s_half_cells : Stmt := top 23
abbrev N_half_cells : List Str := ["r", "address", "high"]
theorem sc_half_cells : FnScope N_half_cells ["r", "address"] (defScope s_half_cells) := ⟨rfl, rfl, rfl, by decide +kernel, rfl, by decide +kernel, by decide +kernel⟩
abbrev s_only_cell : Stmt := top 24
abbrev N_only_cell : List Str := ["row", "r", "s", "part"]
theorem sc_only_cell : FnScope N_only_cell ["row"] (defScope s_only_cell) := ⟨rfl, rfl, rfl, by decide +kernel, rfl, by decide +kernel, by decide +kernel⟩
abbrev s_long_cells : Stmt := top 25
abbrev N_long_cells : List Str := ["row", "target", "word", "halves", "leap"]
theorem sc_long_cells : FnScope N_long_cells ["row", "target"] (defScope s_long_cells) := ⟨rfl, rfl, rfl, by decide +kernel, rfl, by decide +kernel, by decide +kernel⟩
abbrev s_law_bag : Stmt := top 27
abbrev N_law_bag : List Str := ["_law_script", "_law_mixed", "_law_piled"]
theorem sc_law_bag : FnScope N_law_bag ["_law_script"] (defScope s_law_bag) := ⟨rfl, rfl, rfl, by decide +kernel, rfl, by decide +kernel, by decide +kernel⟩
abbrev s_law_draw : Stmt := top 28
abbrev N_law_draw : List Str := ["_law_bag_here", "_law_sides", "_law_piled", "_law_digit", "_law_seed"]
theorem sc_law_draw : FnScope N_law_draw ["_law_bag_here", "_law_sides"] (defScope s_law_draw) := ⟨rfl, rfl, rfl, by decide +kernel, rfl, by decide +kernel, by decide +kernel⟩
abbrev s_law_of : Stmt := top 29
abbrev N_law_of : List Str := ["_law_bag_here", "_law_things"]
theorem sc_law_of : FnScope N_law_of ["_law_bag_here", "_law_things"] (defScope s_law_of) := ⟨rfl, rfl, rfl, by decide +kernel, rfl, by decide +kernel, by decide +kernel⟩
abbrev s_law_same : Stmt := top 30
abbrev N_law_same : List Str := ["_law_found", "_law_due_here", "_law_a", "_law_b"]
theorem sc_law_same : FnScope N_law_same ["_law_found", "_law_due_here"] (defScope s_law_same) := ⟨rfl, rfl, rfl, by decide +kernel, rfl, by decide +kernel, by decide +kernel⟩
abbrev s_law_titles : Stmt := top 31
abbrev N_law_titles : List Str := ["_law_bag_here", "_law_many", "_law_left", "_law_found", "_law_stem", "_law_k", "_law_spot"]
theorem sc_law_titles : FnScope N_law_titles ["_law_bag_here", "_law_many"] (defScope s_law_titles) := ⟨rfl, rfl, rfl, by decide +kernel, rfl, by decide +kernel, by decide +kernel⟩
abbrev s_law_number : Stmt := top 32
abbrev N_law_number : List Str := ["_law_bag_here"]
theorem sc_law_number : FnScope N_law_number ["_law_bag_here"] (defScope s_law_number) := ⟨rfl, rfl, rfl, by decide +kernel, rfl, by decide +kernel, by decide +kernel⟩
abbrev s_law_r : Stmt := top 33
abbrev N_law_r : List Str := ["_law_bag_here"]
theorem sc_law_r : FnScope N_law_r ["_law_bag_here"] (defScope s_law_r) := ⟨rfl, rfl, rfl, by decide +kernel, rfl, by decide +kernel, by decide +kernel⟩
abbrev s_law_code_row : Stmt := top 34
abbrev N_law_code_row : List Str := ["_law_bag_here", "_law_titles_here", "_law_way"]
theorem sc_law_code_row : FnScope N_law_code_row ["_law_bag_here", "_law_titles_here"] (defScope s_law_code_row) := ⟨rfl, rfl, rfl, by decide +kernel, rfl, by decide +kernel, by decide +kernel⟩
abbrev s_law_last_row : Stmt := top 35
abbrev N_law_last_row : List Str := ["_law_bag_here", "_law_titles_here"]
theorem sc_law_last_row : FnScope N_law_last_row ["_law_bag_here", "_law_titles_here"] (defScope s_law_last_row) := ⟨rfl, rfl, rfl, by decide +kernel, rfl, by decide +kernel, by decide +kernel⟩
abbrev s_law_done : Stmt := top 36
abbrev N_law_done : List Str := ["_law_lot", "_law_place_y", "_law_registers", "_law_held", "_law_own", "_law_here", "_law_way", "_law_step", "_law_spot", "_law_number_y", "_law_code", "_law_a", "_law_b", "_law_c", "_law_near", "_law_gone"]
theorem sc_law_done : FnScope N_law_done ["_law_lot", "_law_place_y", "_law_registers", "_law_held"] (defScope s_law_done) := ⟨rfl, rfl, rfl, by decide +kernel, rfl, by decide +kernel, by decide +kernel⟩
abbrev s_law_due : Stmt := top 37
abbrev N_law_due : List Str := ["_law_one", "_law_place_y", "_law_goal", "_law_registers", "_law_held", "_law_size", "_law_own", "_law_behind", "_law_numbers", "_law_item", "_law_a", "_law_b", "_law_way", "_law_words"]
theorem sc_law_due : FnScope N_law_due ["_law_one", "_law_place_y", "_law_goal", "_law_registers", "_law_held", "_law_size"] (defScope s_law_due) := ⟨rfl, rfl, rfl, by decide +kernel, rfl, by decide +kernel, by decide +kernel⟩
abbrev s_law_without_third : Stmt := top 38
abbrev N_law_without_third : List Str := ["_law_done_here"]
theorem sc_law_without_third : FnScope N_law_without_third ["_law_done_here"] (defScope s_law_without_third) := ⟨rfl, rfl, rfl, by decide +kernel, rfl, by decide +kernel, by decide +kernel⟩
abbrev s_law : Stmt := top 39
abbrev N_law : List Str := ["_law_script", "_law_bag_here", "_law_titles_here", "_law_turn", "_law_one", "_law_place_y", "_law_registers", "_law_k", "_law_numbers", "_law_item", "_law_held", "_law_far", "_law_goal", "_law_lot", "_law_done_here", "_law_slot_y", "_law_answer_y"]
theorem sc_law : FnScope N_law ["_law_script"] (defScope s_law) := ⟨rfl, rfl, rfl, by decide +kernel, rfl, by decide +kernel, by decide +kernel⟩
structure Fs where
  (a_is_number : Addr) (d_is_number : FuncData)
  (a_cell_of : Addr) (d_cell_of : FuncData)
  (a_with_part : Addr) (d_with_part : FuncData)
  (a_high_half : Addr) (d_high_half : FuncData)
  (a_low_half : Addr) (d_low_half : FuncData)
  (a_unsigned : Addr) (d_unsigned : FuncData)
  (a_row_cells : Addr) (d_row_cells : FuncData)
  (a_stub_cells : Addr) (d_stub_cells : FuncData)
  (a_placed : Addr) (d_placed : FuncData)
  (a_number : Addr) (d_number : FuncData)
  (a_first_number : Addr) (d_first_number : FuncData)
  (a_half_cells : Addr) (d_half_cells : FuncData)
  (a_only_cell : Addr) (d_only_cell : FuncData)
  (a_long_cells : Addr) (d_long_cells : FuncData)
  (a_law_bag : Addr) (d_law_bag : FuncData)
  (a_law_draw : Addr) (d_law_draw : FuncData)
  (a_law_of : Addr) (d_law_of : FuncData)
  (a_law_same : Addr) (d_law_same : FuncData)
  (a_law_titles : Addr) (d_law_titles : FuncData)
  (a_law_number : Addr) (d_law_number : FuncData)
  (a_law_r : Addr) (d_law_r : FuncData)
  (a_law_code_row : Addr) (d_law_code_row : FuncData)
  (a_law_last_row : Addr) (d_law_last_row : FuncData)
  (a_law_done : Addr) (d_law_done : FuncData)
  (a_law_due : Addr) (d_law_due : FuncData)
  (a_law_without_third : Addr) (d_law_without_third : FuncData)
  (a_law : Addr) (d_law : FuncData)
  (e_SHORT_CODES : Array DictEntry) (z_SHORT_CODES : Nat)
  (c_REGISTERS : Addr)
  (c_CODES : Addr)
  (c_SHORT_CODES : Addr)
def tb_SHORT_CODES : List (Str × V) := [("name", .str "near"), ("jump", .str "jump"), ("ifzero", .str "ifzero"), ("call", .str "call")]
structure Txt (K : PySem.W.Frag) (w : World) (mg : Str → Option Value) (Z : Fs) : Prop where
  F_is_number : Fun K "is_number" "is_number" s_is_number Z.a_is_number Z.d_is_number
  m_is_number : mg "is_number" = some (.ref Z.a_is_number)
  b_is_number : Binds K Z.d_is_number ["value", "least", "most"] []
  F_cell_of : FunD K "cell_of" "cell_of" (defArgs s_cell_of) (defBody s_cell_of) (defScope s_cell_of) [.int 0, .int 0, .int 0] [] Z.a_cell_of Z.d_cell_of
  m_cell_of : mg "cell_of" = some (.ref Z.a_cell_of)
  d_cell_of_1_r_part : ∃ g, KBn K Z.d_cell_of ["word", "r", "s", "part"] 1 ["r", "part"] g (fun us ws => [(us ++ ws).getD 0 .non, (us ++ ws).getD 1 .non, .int 0, (us ++ ws).getD 2 .non])
  d_cell_of_2 : ∃ ds, Vals ([.int 0, .int 0, .int 0].drop 1) ds ∧ Binds K Z.d_cell_of ["word", "r", "s", "part"] ds
  d_cell_of_3 : ∃ ds, Vals ([.int 0, .int 0, .int 0].drop 2) ds ∧ Binds K Z.d_cell_of ["word", "r", "s", "part"] ds
  d_cell_of_4 : ∃ ds, Vals ([.int 0, .int 0, .int 0].drop 3) ds ∧ Binds K Z.d_cell_of ["word", "r", "s", "part"] ds
  d_cell_of_1_part : ∃ g, KBn K Z.d_cell_of ["word", "r", "s", "part"] 1 ["part"] g (fun us ws => [(us ++ ws).getD 0 .non, .int 0, .int 0, (us ++ ws).getD 1 .non])
  d_cell_of_2_part : ∃ g, KBn K Z.d_cell_of ["word", "r", "s", "part"] 2 ["part"] g (fun us ws => [(us ++ ws).getD 0 .non, (us ++ ws).getD 1 .non, .int 0, (us ++ ws).getD 2 .non])
  F_with_part : Fun K "with_part" "with_part" s_with_part Z.a_with_part Z.d_with_part
  m_with_part : mg "with_part" = some (.ref Z.a_with_part)
  b_with_part : Binds K Z.d_with_part ["cell", "part"] []
  F_high_half : Fun K "high_half" "high_half" s_high_half Z.a_high_half Z.d_high_half
  m_high_half : mg "high_half" = some (.ref Z.a_high_half)
  b_high_half : Binds K Z.d_high_half ["address"] []
  F_low_half : Fun K "low_half" "low_half" s_low_half Z.a_low_half Z.d_low_half
  m_low_half : mg "low_half" = some (.ref Z.a_low_half)
  b_low_half : Binds K Z.d_low_half ["address"] []
  F_unsigned : Fun K "unsigned" "unsigned" s_unsigned Z.a_unsigned Z.d_unsigned
  m_unsigned : mg "unsigned" = some (.ref Z.a_unsigned)
  b_unsigned : Binds K Z.d_unsigned ["value"] []
  F_row_cells : FunD K "row_cells" "row_cells" (defArgs s_row_cells) (defBody s_row_cells) (defScope s_row_cells) [.bl false] [] Z.a_row_cells Z.d_row_cells
  m_row_cells : mg "row_cells" = some (.ref Z.a_row_cells)
  d_row_cells_4 : ∃ ds, Vals ([.bl false].drop 1) ds ∧ Binds K Z.d_row_cells ["row", "at", "target", "long"] ds
  F_stub_cells : Fun K "stub_cells" "stub_cells" s_stub_cells Z.a_stub_cells Z.d_stub_cells
  m_stub_cells : mg "stub_cells" = some (.ref Z.a_stub_cells)
  b_stub_cells : Binds K Z.d_stub_cells ["slot"] []
  F_placed : Fun K "placed" "placed" s_placed Z.a_placed Z.d_placed
  m_placed : mg "placed" = some (.ref Z.a_placed)
  b_placed : Binds K Z.d_placed ["cell", "field", "address"] []
  F_number : Fun K "_number" "_number" s_number Z.a_number Z.d_number
  m_number : mg "_number" = some (.ref Z.a_number)
  b_number : Binds K Z.d_number ["name"] []
  F_first_number : Fun K "_first_number" "_first_number" s_first_number Z.a_first_number Z.d_first_number
  m_first_number : mg "_first_number" = some (.ref Z.a_first_number)
  b_first_number : Binds K Z.d_first_number ["row"] []
  F_half_cells : Fun K "_half_cells" "_half_cells" s_half_cells Z.a_half_cells Z.d_half_cells
  m_half_cells : mg "_half_cells" = some (.ref Z.a_half_cells)
  b_half_cells : Binds K Z.d_half_cells ["r", "address"] []
  F_only_cell : Fun K "_only_cell" "_only_cell" s_only_cell Z.a_only_cell Z.d_only_cell
  m_only_cell : mg "_only_cell" = some (.ref Z.a_only_cell)
  b_only_cell : Binds K Z.d_only_cell ["row"] []
  F_long_cells : Fun K "_long_cells" "_long_cells" s_long_cells Z.a_long_cells Z.d_long_cells
  m_long_cells : mg "_long_cells" = some (.ref Z.a_long_cells)
  b_long_cells : Binds K Z.d_long_cells ["row", "target"] []
  F_law_bag : Fun K "_law_bag" "_law_bag" s_law_bag Z.a_law_bag Z.d_law_bag
  m_law_bag : mg "_law_bag" = some (.ref Z.a_law_bag)
  b_law_bag : Binds K Z.d_law_bag ["_law_script"] []
  F_law_draw : Fun K "_law_draw" "_law_draw" s_law_draw Z.a_law_draw Z.d_law_draw
  m_law_draw : mg "_law_draw" = some (.ref Z.a_law_draw)
  b_law_draw : Binds K Z.d_law_draw ["_law_bag_here", "_law_sides"] []
  F_law_of : Fun K "_law_of" "_law_of" s_law_of Z.a_law_of Z.d_law_of
  m_law_of : mg "_law_of" = some (.ref Z.a_law_of)
  b_law_of : Binds K Z.d_law_of ["_law_bag_here", "_law_things"] []
  F_law_same : Fun K "_law_same" "_law_same" s_law_same Z.a_law_same Z.d_law_same
  m_law_same : mg "_law_same" = some (.ref Z.a_law_same)
  b_law_same : Binds K Z.d_law_same ["_law_found", "_law_due_here"] []
  F_law_titles : Fun K "_law_titles" "_law_titles" s_law_titles Z.a_law_titles Z.d_law_titles
  m_law_titles : mg "_law_titles" = some (.ref Z.a_law_titles)
  b_law_titles : Binds K Z.d_law_titles ["_law_bag_here", "_law_many"] []
  F_law_number : Fun K "_law_number" "_law_number" s_law_number Z.a_law_number Z.d_law_number
  m_law_number : mg "_law_number" = some (.ref Z.a_law_number)
  b_law_number : Binds K Z.d_law_number ["_law_bag_here"] []
  F_law_r : Fun K "_law_r" "_law_r" s_law_r Z.a_law_r Z.d_law_r
  m_law_r : mg "_law_r" = some (.ref Z.a_law_r)
  b_law_r : Binds K Z.d_law_r ["_law_bag_here"] []
  F_law_code_row : Fun K "_law_code_row" "_law_code_row" s_law_code_row Z.a_law_code_row Z.d_law_code_row
  m_law_code_row : mg "_law_code_row" = some (.ref Z.a_law_code_row)
  b_law_code_row : Binds K Z.d_law_code_row ["_law_bag_here", "_law_titles_here"] []
  F_law_last_row : Fun K "_law_last_row" "_law_last_row" s_law_last_row Z.a_law_last_row Z.d_law_last_row
  m_law_last_row : mg "_law_last_row" = some (.ref Z.a_law_last_row)
  b_law_last_row : Binds K Z.d_law_last_row ["_law_bag_here", "_law_titles_here"] []
  F_law_done : Fun K "_law_done" "_law_done" s_law_done Z.a_law_done Z.d_law_done
  m_law_done : mg "_law_done" = some (.ref Z.a_law_done)
  b_law_done : Binds K Z.d_law_done ["_law_lot", "_law_place_y", "_law_registers", "_law_held"] []
  F_law_due : Fun K "_law_due" "_law_due" s_law_due Z.a_law_due Z.d_law_due
  m_law_due : mg "_law_due" = some (.ref Z.a_law_due)
  b_law_due : Binds K Z.d_law_due ["_law_one", "_law_place_y", "_law_goal", "_law_registers", "_law_held", "_law_size"] []
  F_law_without_third : Fun K "_law_without_third" "_law_without_third" s_law_without_third Z.a_law_without_third Z.d_law_without_third
  m_law_without_third : mg "_law_without_third" = some (.ref Z.a_law_without_third)
  b_law_without_third : Binds K Z.d_law_without_third ["_law_done_here"] []
  F_law : Fun K "law" "law" s_law Z.a_law Z.d_law
  m_law : mg "law" = some (.ref Z.a_law)
  b_law : Binds K Z.d_law ["_law_script"] []
  n_abs : mg "abs" = none
  n_all : mg "all" = none
  n_bool : mg "bool" = none
  n_int : mg "int" = none
  n_isinstance : mg "isinstance" = none
  n_len : mg "len" = none
  n_list : mg "list" = none
  n_range : mg "range" = none
  n_str : mg "str" = none
  n_tuple : mg "tuple" = none
  n_zip : mg "zip" = none
  g_REGISTERS : mg "REGISTERS" = some (.ref Z.c_REGISTERS)
  v_REGISTERS : ∀ H : Hp, SqT K H Z.c_REGISTERS [.str "r0", .str "r1", .str "r2"]
  L_REGISTERS : ∃ o, K.lookup Z.c_REGISTERS = some o ∧ o.cls = .type "tuple" ∧ o.dict = none
  g_CODES : mg "CODES" = some (.ref Z.c_CODES)
  v_CODES : ∀ H : Hp, SqT K H Z.c_CODES [.str "fault", .str "halt", .str "high", .str "low", .str "add", .str "take", .str "load", .str "store", .str "jump", .str "ifzero", .str "call", .str "near", .str "jumpby", .str "callby", .str "back", .str "out"]
  L_CODES : ∃ o, K.lookup Z.c_CODES = some o ∧ o.cls = .type "tuple" ∧ o.dict = none
  g_HIDDEN : ∃ t, mg "HIDDEN" = some (.int 3 t)
  g_SHORT_CODES : mg "SHORT_CODES" = some (.ref Z.c_SHORT_CODES)
  D_SHORT_CODES : KDict K w Z.c_SHORT_CODES Z.e_SHORT_CODES Z.z_SHORT_CODES
  x_SHORT_CODES : ∀ z : Str, ∃ r, PySem.W.nsIn K Z.c_SHORT_CODES z = some r ∧ RelOpt RelV (findT tb_SHORT_CODES z) r
section
variable {X : Cx} {CX : CXT} {k : Nat} {f : Addr} {fd : FuncData} {ps ks : List Str} {sp : Sp} {E : XK} {x : Str} {p pos : Pos} {kws : List Keyword} {tk : TA} {g : List Value → List Value → List Value} {gV : List V → List V → List V}
/-- f(k = v, ..), no value by place -/
theorem pe_callN0 (F : FnOk X.prog X.w X.K X.mg X.base CX k f fd ps sp) (hr : Room k X.A) (hg : Gl X x) (hm : X.mg x = some (.ref f)) (hk : PySem.W.keepIn X.K (.ref f) = true) (hb : KBn X.K fd ps 0 ks g gV) (hx : Passes CX X E) (hkw : PK X kws tk)
    (hall : (backToKw pos (keywordEach kws X.env)).all (·.1.isSome) = true := by rfl) (hks : (backToKw pos (keywordEach kws X.env)).filterMap (·.1) = ks := by rfl) (hdb : (x == ("__debug__" : Str)) = false := by decide)
    (hpl : ((backTo pos (starEach [] X.env)).any (·.1) || (backToKw pos (keywordEach kws X.env)).any (·.1.isNone)) = false := by rfl) :
    PE X (.Call (.Name x p) [] kws pos) (tCallN 0 ks.length sp gV E tNil tk) := by
  refine ⟨fun pins s σ H Q I h => ?_⟩
  refine wpAny_Call_Name_kw (ld_glob I hg hm ?_ hdb)
  refine PySem.W.callWith_KW0 (h₀ := X.base) I.ok.mod.kin hk hall ?_ hpl
  refine thn (hkw.run pos pins s σ H _ I h) fun ws s2 ⟨zs, H2, I2, rz, l1, l2, q2⟩ => ⟨I2.kIn, ?_⟩
  rw [hks]
  exact run_fnN (us := []) (vs := []) F hr hb hx I2 .nil rz rfl l2 q2
end
theorem getD_rel : ∀ {vs : List V} {us : List Value} (h : Vals vs us) (i : Nat), RelV (vs.getD i .non) (us.getD i .none)
  | _, _, .nil, _ => rfl
  | _, _, .cons r _, 0 => r
  | _, _, .cons _ t, i + 1 => getD_rel t i
theorem kbn_d_cell_of_1_r_part {K : PySem.W.Frag} {f : Addr} {fd : FuncData} (F : FunD K "cell_of" "cell_of" (defArgs s_cell_of) (defBody s_cell_of) (defScope s_cell_of) [.int 0, .int 0, .int 0] [] f fd) : ∃ g, KBn K fd ["word", "r", "s", "part"] 1 ["r", "part"] g (fun us ws => [(us ++ ws).getD 0 .non, (us ++ ws).getD 1 .non, .int 0, (us ++ ws).getD 2 .non]) := by
  obtain ⟨oc, od, dV, kV, doc, pm, an, cdv, ct, osl, rfl, lk, hcd, hD, hK⟩ := F.ex
  rcases hD with ⟨e, _⟩ | ⟨_, T, o, its, m, rfl, lT, oT, rT⟩
  · cases e
  · refine ⟨fun us ws => [(us ++ ws).getD 0 .none, (us ++ ws).getD 1 .none, its.getD 1 .none, (us ++ ws).getD 2 .none], fun s us ws X l1 l2 => ?_, fun r1 r2 => .cons (getD_rel (r1.append r2) 0) (.cons (getD_rel (r1.append r2) 1) (.cons (getD_rel rT 1) (.cons (getD_rel (r1.append r2) 2) (.nil))))⟩
    have l3 : its.length = 3 := rT.length.symm
    match us, ws, its, l1, l2, l3, oT with
    | [_], [_, _], [_, _, _], _, _, _, oT => exact BindsTo.of_looks fun M => looks_items X lT oT (.of_pure rfl)
theorem kbn_d_cell_of_2 {K : PySem.W.Frag} {f : Addr} {fd : FuncData} (F : FunD K "cell_of" "cell_of" (defArgs s_cell_of) (defBody s_cell_of) (defScope s_cell_of) [.int 0, .int 0, .int 0] [] f fd) : ∃ ds, Vals ([.int 0, .int 0, .int 0].drop 1) ds ∧ Binds K fd ["word", "r", "s", "part"] ds :=
  F.binds1 (ps := ["word", "r", "s", "part"]) 2 1 (fun z => nomatch z) rfl fun T kV doc pm an cdv ct us its l1 l2 => match us, its, l1, l2 with
  | [_, _], [_, _, _], _, _ => ⟨_, rfl, rfl⟩
theorem kbn_d_cell_of_3 {K : PySem.W.Frag} {f : Addr} {fd : FuncData} (F : FunD K "cell_of" "cell_of" (defArgs s_cell_of) (defBody s_cell_of) (defScope s_cell_of) [.int 0, .int 0, .int 0] [] f fd) : ∃ ds, Vals ([.int 0, .int 0, .int 0].drop 2) ds ∧ Binds K fd ["word", "r", "s", "part"] ds :=
  F.binds1 (ps := ["word", "r", "s", "part"]) 3 2 (fun z => nomatch z) rfl fun T kV doc pm an cdv ct us its l1 l2 => match us, its, l1, l2 with
  | [_, _, _], [_, _, _], _, _ => ⟨_, rfl, rfl⟩
theorem kbn_d_cell_of_4 {K : PySem.W.Frag} {f : Addr} {fd : FuncData} (F : FunD K "cell_of" "cell_of" (defArgs s_cell_of) (defBody s_cell_of) (defScope s_cell_of) [.int 0, .int 0, .int 0] [] f fd) : ∃ ds, Vals ([.int 0, .int 0, .int 0].drop 3) ds ∧ Binds K fd ["word", "r", "s", "part"] ds :=
  F.binds1 (ps := ["word", "r", "s", "part"]) 4 3 (fun z => nomatch z) rfl fun T kV doc pm an cdv ct us its l1 l2 => match us, its, l1, l2 with
  | [_, _, _, _], [_, _, _], _, _ => ⟨_, rfl, rfl⟩
theorem kbn_d_cell_of_1_part {K : PySem.W.Frag} {f : Addr} {fd : FuncData} (F : FunD K "cell_of" "cell_of" (defArgs s_cell_of) (defBody s_cell_of) (defScope s_cell_of) [.int 0, .int 0, .int 0] [] f fd) : ∃ g, KBn K fd ["word", "r", "s", "part"] 1 ["part"] g (fun us ws => [(us ++ ws).getD 0 .non, .int 0, .int 0, (us ++ ws).getD 1 .non]) := by
  obtain ⟨oc, od, dV, kV, doc, pm, an, cdv, ct, osl, rfl, lk, hcd, hD, hK⟩ := F.ex
  rcases hD with ⟨e, _⟩ | ⟨_, T, o, its, m, rfl, lT, oT, rT⟩
  · cases e
  · refine ⟨fun us ws => [(us ++ ws).getD 0 .none, its.getD 0 .none, its.getD 1 .none, (us ++ ws).getD 1 .none], fun s us ws X l1 l2 => ?_, fun r1 r2 => .cons (getD_rel (r1.append r2) 0) (.cons (getD_rel rT 0) (.cons (getD_rel rT 1) (.cons (getD_rel (r1.append r2) 1) (.nil))))⟩
    have l3 : its.length = 3 := rT.length.symm
    match us, ws, its, l1, l2, l3, oT with
    | [_], [_], [_, _, _], _, _, _, oT => exact BindsTo.of_looks fun M => looks_items X lT oT (.of_pure rfl)
theorem kbn_d_cell_of_2_part {K : PySem.W.Frag} {f : Addr} {fd : FuncData} (F : FunD K "cell_of" "cell_of" (defArgs s_cell_of) (defBody s_cell_of) (defScope s_cell_of) [.int 0, .int 0, .int 0] [] f fd) : ∃ g, KBn K fd ["word", "r", "s", "part"] 2 ["part"] g (fun us ws => [(us ++ ws).getD 0 .non, (us ++ ws).getD 1 .non, .int 0, (us ++ ws).getD 2 .non]) := by
  obtain ⟨oc, od, dV, kV, doc, pm, an, cdv, ct, osl, rfl, lk, hcd, hD, hK⟩ := F.ex
  rcases hD with ⟨e, _⟩ | ⟨_, T, o, its, m, rfl, lT, oT, rT⟩
  · cases e
  · refine ⟨fun us ws => [(us ++ ws).getD 0 .none, (us ++ ws).getD 1 .none, its.getD 1 .none, (us ++ ws).getD 2 .none], fun s us ws X l1 l2 => ?_, fun r1 r2 => .cons (getD_rel (r1.append r2) 0) (.cons (getD_rel (r1.append r2) 1) (.cons (getD_rel rT 1) (.cons (getD_rel (r1.append r2) 2) (.nil))))⟩
    have l3 : its.length = 3 := rT.length.symm
    match us, ws, its, l1, l2, l3, oT with
    | [_, _], [_], [_, _, _], _, _, _, oT => exact BindsTo.of_looks fun M => looks_items X lT oT (.of_pure rfl)
theorem kbn_d_row_cells_4 {K : PySem.W.Frag} {f : Addr} {fd : FuncData} (F : FunD K "row_cells" "row_cells" (defArgs s_row_cells) (defBody s_row_cells) (defScope s_row_cells) [.bl false] [] f fd) : ∃ ds, Vals ([.bl false].drop 1) ds ∧ Binds K fd ["row", "at", "target", "long"] ds :=
  F.binds1 (ps := ["row", "at", "target", "long"]) 4 1 (fun z => nomatch z) rfl fun T kV doc pm an cdv ct us its l1 l2 => match us, its, l1, l2 with
  | [_, _, _, _], [_], _, _ => ⟨_, rfl, rfl⟩
/-! ### the bag of the law: a list of a list of ints and four numbers -/
def Bag (H : Hp) (b l : Addr) : Prop := ∃ (ns : List Int) (i : Nat) (r m n : Int), H b = some (.lst [.ref l, .int i, .int r, .int m, .int n]) ∧ H l = some (.lst (ns.map V.int)) ∧ l ≠ b ∧ ns.length ≤ 63 ∧ 0 ≤ r ∧ 0 ≤ m ∧ m < 2147483648
/-- all that was tracked, the bag apart, is as it was -/
def Stp (b : Addr) (H H' : Hp) : Prop := ∀ a o, a ≠ b → H a = some o → H' a = some o
theorem Stp.refl {b : Addr} {H : Hp} : Stp b H H := fun _ _ _ h => h
theorem Stp.trans {b : Addr} {H H1 H2 : Hp} (x : Stp b H H1) (y : Stp b H1 H2) : Stp b H H2 := fun a o n h => y a o n (x a o n h)
theorem Stp.put {b : Addr} {H : Hp} {o : HO} : Stp b H (upd H b o) := fun a u n h => by rw [upd_ne n]; exact h
theorem Stp.new {b p : Addr} {H : Hp} {o : HO} (h : H p = none) : Stp b H (upd H p o) := fun a u _ e => by rw [upd_ne (ne_of_none e h)]; exact e
theorem Same.new {p : Addr} {H : Hp} {o : HO} (h : H p = none) : Same H (upd H p o) := fun a u e => by rw [upd_ne (ne_of_none e h)]; exact e
theorem Same.stp {b : Addr} {H H' : Hp} (h : Same H H') : Stp b H H' := fun a o _ e => h a o e
theorem Bag.same {b l : Addr} {H H' : Hp} (s : Same H H') (h : Bag H b l) : Bag H' b l := by
  obtain ⟨ns, i, r, m, n, h1, h2, h3⟩ := h
  exact ⟨ns, i, r, m, n, s _ _ h1, s _ _ h2, h3⟩
theorem Bag.new {b l p : Addr} {H : Hp} {o : HO} (h : Bag H b l) (hp : H p = none) : Bag (upd H p o) b l := h.same (Same.new hp)
theorem Bag.ne {b l p : Addr} {H : Hp} (h : Bag H b l) (hp : H p = none) : p ≠ b := by
  obtain ⟨ns, i, r, m, n, h1, _⟩ := h
  exact (ne_of_none h1 hp).symm
theorem Bag.nel {b l p : Addr} {H : Hp} (h : Bag H b l) (hp : H p = none) : p ≠ l := by
  obtain ⟨ns, i, r, m, n, _, h1, _⟩ := h
  exact (ne_of_none h1 hp).symm
/-- a list of one's own is written -/
theorem Bag.put {b l p : Addr} {H : Hp} {o : HO} (h : Bag H b l) (n : p ≠ b) (nl : p ≠ l) : Bag (upd H p o) b l := by
  obtain ⟨ns, i, r, m, c, h1, h2, h3⟩ := h
  exact ⟨ns, i, r, m, c, by rw [upd_ne n.symm]; exact h1, by rw [upd_ne nl.symm]; exact h2, h3⟩
/-- what was new is new: the bag stands behind, too -/
theorem Stp.free {b l p : Addr} {H H' : Hp} (s : Stp b H H') (hb : Bag H' b l) (hp : H' p = none) : H p = none := by
  cases q : H p with
  | none => rfl
  | some o =>
    rw [s p o (hb.ne hp) q] at hp
    cases hp
theorem Stp.sqL {K : PySem.W.Frag} {b a : Addr} {H H' : Hp} {xs : List V} (s : Stp b H H') (n : a ≠ b) (h : SqL K H a xs) : SqL K H' a xs := by
  rcases h with (h | ⟨o, h⟩) | h
  · exact .inl (.inl (s _ _ n h))
  · exact .inl (.inr ⟨o, s _ _ n h⟩)
  · exact .inr h
theorem Stp.sqT {K : PySem.W.Frag} {b a : Addr} {H H' : Hp} {xs : List V} (s : Stp b H H') (n : a ≠ b) (h : SqT K H a xs) : SqT K H' a xs := by
  rcases h with (h | ⟨o, h⟩) | h
  · exact .inl (.inl (s _ _ n h))
  · exact .inl (.inr ⟨o, s _ _ n h⟩)
  · exact .inr h
/-- new: not tracked ahead, another one than the bag -/
theorem cut_ints (ns : List Int) (k : Nat) : cutV (ns.map V.int) none (some (k : Int)) = (ns.take k).map V.int := by
  unfold cutV
  rw [HT.sIx_none, HT.sIx_nat, List.drop_zero, Nat.sub_zero, List.map_take]
  by_cases h : k ≤ (ns.map V.int).length
  · rw [Nat.min_eq_left h]
  · rw [Nat.min_eq_right (by omega), List.take_length, List.take_of_length_le (by omega)]
theorem int_of_map {ns : List Int} {i : Nat} {y : V} (hi : (ns.map V.int)[i]? = some y) : ∃ u, y = V.int u := by
  rw [List.getElem?_map] at hi
  cases e : ns[i]? with
  | none => rw [e] at hi; cases hi
  | some u => rw [e] at hi; exact ⟨u, (Option.some.inj hi).symm⟩
theorem mem_at {α : Type} {xs : List α} {d : Int} (h0 : 0 ≤ d) (h1 : d < xs.length) : ∃ v, atI xs d = some v ∧ v ∈ xs := by
  obtain ⟨j, rfl⟩ : ∃ j : Nat, d = (j : Int) := ⟨d.toNat, by omega⟩
  have hj : j < xs.length := by omega
  exact ⟨xs[j], atI_nat (List.getElem?_eq_getElem hj), List.getElem_mem hj⟩

section
variable {P : Program} {w : World} {K : PySem.W.Frag} {mg : Str → Option Value} {base : Heap} {Z : Fs}
/-! ### _law_bag -/
def sp_law_bag (K : PySem.W.Frag) : Sp := fun vs H Q _ => ∃ (a : Addr) (ns : List Int), vs = [.ref a] ∧ SqL K H a (ns.map V.int) ∧ ns.length ≤ 63 ∧ ∀ (H' : Hp) (b l : Addr), Same H H' → H b = none → H l = none → Bag H' b l → Q (.ref b) H'
theorem ok_law_bag (T : Txt K w mg Z) : FnOk P w K mg base CX0 1 Z.a_law_bag Z.d_law_bag ["_law_script"] (sp_law_bag K) := by
  refine T.F_law_bag.ok sc_law_bag (fun vs H Q E h => ?_) (fun cdv A outer s H vs Q E hr h => ?_)
  · obtain ⟨a, ns, rfl, _⟩ := h
    rfl
  · obtain ⟨a, ns, rfl, hS, hlen, k⟩ := h
    refine ⟨_, (pss_cons (ps_set (i := 1) sc_law_bag.nd rfl (Or.inl rfl) pe_int)
      (pss_cons (ps_for PassesOwn.never rfl (pi_list (pe_slice sl_list (pv 0) po_none (po_some pe_int))) (pg_name (i := 2) sc_law_bag.nd rfl (Or.inl rfl)) (pss_one (ps_set (i := 1) sc_law_bag.nd rfl (Or.inl rfl) (pe_op op_mod (pe_callTy call_int1 (by rfl) T.n_int boot_int (pa_cons (pe_op op_add (pe_op op_add (pe_op op_mul (pv 1) pe_int) (pe_op op_mul (pe_op op_mod (pe_callTy call_int1 (by rfl) T.n_int boot_int (pa_cons (pv 2) pa_nil)) pe_int) pe_int)) pe_int) pa_nil)) pe_int))))
      (pss_one (ps_ret (pe_lst (pa_cons (pe_callTy call_list_of (by rfl) T.n_list boot_list (pa_cons (pe_slice sl_list (pv 0) po_none (po_some pe_int)) pa_nil)) (pa_cons pe_int (pa_cons pe_int (pa_cons (pv 1) (pa_cons pe_int pa_nil)))))))))), ?_⟩
    refine ⟨.ref a, rfl, 63, rfl, a, ns.map V.int, rfl, hS, fun p hp => ?_⟩
    have s1 : Same H (upd H p (.lst (cutV (ns.map V.int) none (some 63)))) := Same.new hp
    have ec : cutV (ns.map V.int) none (some 63) = (ns.take 63).map V.int := cut_ints ns 63
    refine ⟨p, rfl, ⟨_, SqL.of upd_same⟩, for_list (K := K) (a := p) (xs := cutV (ns.map V.int) none (some 63)) (fun i σ H' => ∃ (m : Int) (v : Option V), σ = [some (.ref a), some (.int m), v] ∧ Same (upd H p (.lst (cutV (ns.map V.int) none (some 63)))) H' ∧ 0 ≤ m ∧ m < 2147483579)
      ⟨12026, none, rfl, Same.refl _, by decide, by decide⟩ (fun i σ H' _ ⟨_, _, _, s2, _⟩ => SqL.of (s2 _ _ upd_same)) ?_ ?_⟩
    · rintro i y σ H' hi ⟨m, v, rfl, s2, h0, h1⟩
      rw [ec] at hi
      obtain ⟨u, rfl⟩ := int_of_map hi
      refine ⟨_, rfl, _, _, rfl, rfl, .inr ⟨by decide, by decide⟩, _, rfl, .inl ⟨_, rfl, _, _, rfl, rfl, (by show (0 : Int) < 1000639; decide), _, _, rfl, rfl, .inr ⟨by decide, by decide⟩, _, _, rfl, rfl, _, _, rfl, rfl, .inl ⟨_, rfl, _, _, rfl, rfl, (by show (0 : Int) < 2147483579; decide), ?_⟩⟩⟩
      exact ⟨_, _, rfl, s2, Int.emod_nonneg _ (by decide), Int.emod_lt_of_pos _ (by decide)⟩
    · rintro σ H' ⟨m, v, rfl, s2, h0, h1⟩
      refine ⟨.ref a, rfl, 63, rfl, a, ns.map V.int, rfl, (s1.trans s2).seq hS, fun q hq => ⟨q, _, rfl, .inl (SqL.of upd_same), fun l hl => ⟨_, rfl, (by show 5 ≤ sizeLine; decide), fun b hb => ?_⟩⟩⟩
      have nlb : l ≠ b := fun e => by
        rw [← e, upd_same] at hb
        cases hb
      have s3 := ((s1.trans s2).trans (Same.new (o := .lst (cutV (ns.map V.int) none (some 63))) hq)).trans (Same.new (o := .lst (cutV (ns.map V.int) none (some 63))) hl)
      refine k _ b l (s3.trans (Same.new hb)) (s3.free hb) (((s1.trans s2).trans (Same.new (o := .lst (cutV (ns.map V.int) none (some 63))) hq)).free hl) ⟨ns.take 63, 0, 0, m, 0, upd_same, ?_, nlb, ?_, by decide, h0, by omega⟩
      · rw [upd_ne nlb, upd_same, ec]
      · rw [List.length_take]
        omega
end

section
variable {P : Program} {w : World} {K : PySem.W.Frag} {mg : Str → Option Value} {base : Heap} {Z : Fs}
/-! ### _law_draw -/
def sp_law_draw : Sp := fun vs H Q _ => ∃ (b l : Addr) (d : Int), vs = [.ref b, .int d] ∧ Bag H b l ∧ 0 < d ∧ d < 1073741824 ∧ ∀ (H' : Hp) (v : Int), Stp b H H' → Bag H' b l → 0 ≤ v → v < d → Q (.int v) H'
theorem ok_law_draw (T : Txt K w mg Z) : FnOk P w K mg base CX0 1 Z.a_law_draw Z.d_law_draw ["_law_bag_here", "_law_sides"] sp_law_draw := by
  refine T.F_law_draw.ok sc_law_draw (fun vs H Q E h => ?_) (fun cdv A outer s H vs Q E hr h => ?_)
  · obtain ⟨b, l, d, rfl, _⟩ := h
    rfl
  · obtain ⟨b, l, d, rfl, ⟨ns, i, r, m, n, hb, hl, nlb, hlen, r0, m0, m1⟩, d0, d1, k⟩ := h
    refine ⟨_, (pss_cons (ps_asg (pe_op op_add (pe_ix ix_list (pv 0) pe_int (fun _ _ => rfl)) pe_int) (pg_sub (pv 0) pe_int set_list))
      (C8.pss_cut (ps_if (PW.pt (pw_and (pt_cmpR op_eq (pe_ix ix_list (pv 0) pe_int (fun _ _ => rfl)) pe_int (nomark _)) (pw_and1 (pt_cmpR op_lt (pe_ix ix_list (pv 0) pe_int (fun _ _ => rfl)) (pe_callB call_len (by rfl) T.n_len boot_len (pa_cons (pe_ix ix_list (pv 0) pe_int (fun _ _ => rfl)) pa_nil)) (nomark _))))) (pss_cons (ps_set (i := 2) sc_law_draw.nd rfl (Or.inl rfl) (pe_callTy call_int1 (by rfl) T.n_int boot_int (pa_cons (pe_ix ix_list (pe_ix ix_list (pv 0) pe_int (fun _ _ => rfl)) (pe_ix ix_list (pv 0) pe_int (fun _ _ => rfl)) (fun _ _ => rfl)) pa_nil)))
      (pss_cons (ps_asg (pe_op op_add (pe_ix ix_list (pv 0) pe_int (fun _ _ => rfl)) pe_int) (pg_sub (pv 0) pe_int set_list))
      (pss_one (ps_if (pt_cmpR op_ge (pe_callB call_abs (by rfl) T.n_abs boot_abs (pa_cons (pv 2) pa_nil)) (pe_op op_pow pe_int pe_int) (nomark _)) (pss_one (ps_asg (pe_callB call_abs (by rfl) T.n_abs boot_abs (pa_cons (pv 2) pa_nil)) (pg_sub (pv 0) pe_int set_list))) (pss_one (ps_asg (pe_op op_mod (pe_callTy call_int1 (by rfl) T.n_int boot_int (pa_cons (pe_op op_add (pe_op op_add (pe_op op_mul (pe_ix ix_list (pv 0) pe_int (fun _ _ => rfl)) pe_int) (pe_op op_mul (pe_op op_mod (pe_callTy call_int1 (by rfl) T.n_int boot_int (pa_cons (pv 2) pa_nil)) pe_int) pe_int)) pe_int) pa_nil)) pe_int) (pg_sub (pv 0) pe_int set_list))))))) pss_nil)
      (pss_cons (ps_if (pt_cmpR op_gt (pe_ix ix_list (pv 0) pe_int (fun _ _ => rfl)) pe_int (nomark _)) (pss_cons (ps_set (i := 3) sc_law_draw.nd rfl (Or.inl rfl) (pe_op op_mod (pe_callTy call_int1 (by rfl) T.n_int boot_int (pa_cons (pe_ix ix_list (pv 0) pe_int (fun _ _ => rfl)) pa_nil)) (pv 1)))
      (pss_cons (ps_asg (pe_op op_fdiv (pe_ix ix_list (pv 0) pe_int (fun _ _ => rfl)) (pv 1)) (pg_sub (pv 0) pe_int set_list))
      (pss_one (ps_ret (pv 3))))) pss_nil)
      (pss_cons (ps_set (i := 4) sc_law_draw.nd rfl (Or.inl rfl) (pe_callTy call_int1 (by rfl) T.n_int boot_int (pa_cons (pe_ix ix_list (pv 0) pe_int (fun _ _ => rfl)) pa_nil)))
      (pss_cons (ps_asg (pe_op op_mod (pe_callTy call_int1 (by rfl) T.n_int boot_int (pa_cons (pe_op op_add (pe_op op_add (pe_op op_add (pe_op op_mul (pe_op op_mul (pv 4) (pv 4)) pe_int) (pe_op op_mul (pv 4) pe_int)) (pe_op op_mul (pe_ix ix_list (pv 0) pe_int (fun _ _ => rfl)) pe_int)) pe_int) pa_nil)) pe_int) (pg_sub (pv 0) pe_int set_list))
      (pss_one (ps_ret (pe_op op_mod (pe_callTy call_int1 (by rfl) T.n_int boot_int (pa_cons (pe_op op_add (pe_op op_fdiv (pe_ix ix_list (pv 0) pe_int (fun _ _ => rfl)) pe_int) (pe_op op_mul (pe_op op_mod (pe_callTy call_int1 (by rfl) T.n_int boot_int (pa_cons (pe_ix ix_list (pv 0) pe_int (fun _ _ => rfl)) pa_nil)) pe_int) pe_int)) pa_nil)) (pv 1))))))))), ?_⟩
    -- bag[4] = bag[4] + 1
    refine ⟨.ref b, rfl, b, _, 4, .int n, rfl, rfl, SqL.of hb, atI_nat (j := 4) rfl, n, 1, rfl, rfl, .ref b, rfl, b, _, 4, 4, rfl, rfl, hb, rfl, ?_⟩
    refine ⟨fun σ' H' => ∃ (y2 : Option V), σ' = [some (.ref b), some (.int d), y2, none, none] ∧ Stp b H H' ∧ Bag H' b l, ?_, ?_⟩
    · have hb1 : (upd H b (.lst ([V.ref l, .int i, .int r, .int m, .int n].set 4 (.int (n + 1))))) b = some (.lst [.ref l, .int i, .int r, .int m, .int (n + 1)]) := upd_same
      have hl1 : (upd H b (.lst ([V.ref l, .int i, .int r, .int m, .int n].set 4 (.int (n + 1))))) l = some (.lst (ns.map V.int)) := by
        rw [upd_ne nlb]
        exact hl
      have s1 : Stp b H (upd H b (.lst ([V.ref l, .int i, .int r, .int m, .int n].set 4 (.int (n + 1))))) := Stp.put
      generalize upd H b (.lst ([V.ref l, .int i, .int r, .int m, .int n].set 4 (.int (n + 1)))) = H1 at hb1 hl1 s1 ⊢
      have B1 : Bag H1 b l := ⟨ns, i, r, m, n + 1, hb1, hl1, nlb, hlen, r0, m0, m1⟩
      -- if bag[2] == 0 and bag[1] < len(bag[0])
      refine ⟨.ref b, rfl, b, _, 2, .int r, rfl, rfl, SqL.of hb1, atI_nat (j := 2) rfl, rfl, _, rfl, ?_⟩
      refine ite2 (fun _ => ?_) (fun _ => ?_)
      · refine ⟨.ref b, rfl, b, _, 1, .int i, rfl, rfl, SqL.of hb1, atI_nat (j := 1) rfl, .ref b, rfl, b, _, 0, .ref l, rfl, rfl, SqL.of hb1, atI_nat (j := 0) rfl, .ref l, ns.length, rfl, .inl ⟨_, SqL.of hl1, by rw [List.length_map]⟩, _, _, rfl, rfl, _, rfl, ?_⟩
        refine ite2 (fun hi => ?_) (fun _ => ?_)
        · have hi' : i < ns.length := by
            have q := of_decide_eq_true hi
            omega
          have gi : atI (ns.map V.int) (i : Int) = some (.int ns[i]) := atI_nat (by rw [List.getElem?_map, List.getElem?_eq_getElem hi']; rfl)
          -- piled = int(bag[0][bag[1]])
          refine ⟨.ref b, rfl, b, _, 0, .ref l, rfl, rfl, SqL.of hb1, atI_nat (j := 0) rfl, .ref b, rfl, b, _, 1, .int i, rfl, rfl, SqL.of hb1, atI_nat (j := 1) rfl, l, _, _, _, rfl, rfl, SqL.of hl1, gi, .inl ⟨_, rfl, ?_⟩⟩
          -- bag[1] = bag[1] + 1
          refine ⟨.ref b, rfl, b, _, 1, .int i, rfl, rfl, SqL.of hb1, atI_nat (j := 1) rfl, i, 1, rfl, rfl, .ref b, rfl, b, _, 1, 1, rfl, rfl, hb1, rfl, ?_⟩
          have hb2 : (upd H1 b (.lst ([V.ref l, .int i, .int r, .int m, .int (n + 1)].set 1 (.int (i + 1))))) b = some (.lst [.ref l, .int ((i + 1 : Nat) : Int), .int r, .int m, .int (n + 1)]) := upd_same
          have hl2 : (upd H1 b (.lst ([V.ref l, .int i, .int r, .int m, .int (n + 1)].set 1 (.int (i + 1))))) l = some (.lst (ns.map V.int)) := by
            rw [upd_ne nlb]
            exact hl1
          have s2 : Stp b H (upd H1 b (.lst ([V.ref l, .int i, .int r, .int m, .int (n + 1)].set 1 (.int (i + 1))))) := s1.trans Stp.put
          generalize upd H1 b (.lst ([V.ref l, .int i, .int r, .int m, .int (n + 1)].set 1 (.int (i + 1)))) = H2 at hb2 hl2 s2 ⊢
          -- if abs(piled) >= 10 ** 18
          refine ⟨.int ns[i], rfl, _, rfl, 10, 18, rfl, rfl, ⟨by decide, by decide, by decide⟩, _, _, rfl, rfl, _, rfl, ?_⟩
          refine ite2 (fun _ => ?_) (fun _ => ?_)
          · refine ⟨.int ns[i], rfl, _, rfl, .ref b, rfl, b, _, 2, 2, rfl, rfl, hb2, rfl, ?_⟩
            refine ⟨_, rfl, s2.trans Stp.put, ns, i + 1, _, m, n + 1, upd_same, ?_, nlb, hlen, ?_, m0, m1⟩
            · rw [upd_ne nlb]
              exact hl2
            · show 0 ≤ (if ns[i] < 0 then -ns[i] else ns[i])
              split <;> omega
          · refine ⟨.ref b, rfl, b, _, 3, .int m, rfl, rfl, SqL.of hb2, atI_nat (j := 3) rfl, _, _, rfl, rfl, .inr ⟨by decide, by decide⟩, .int ns[i], rfl, .inl ⟨_, rfl, _, _, rfl, rfl, (by show (0 : Int) < 1000639; decide), _, _, rfl, rfl, .inr ⟨by decide, by decide⟩, _, _, rfl, rfl, _, _, rfl, rfl, .inl ⟨_, rfl, _, _, rfl, rfl, (by show (0 : Int) < 2147483587; decide), .ref b, rfl, b, _, 3, 3, rfl, rfl, hb2, rfl, ?_⟩⟩⟩
            refine ⟨_, rfl, s2.trans Stp.put, ns, i + 1, r, _, n + 1, upd_same, ?_, nlb, hlen, r0, Int.emod_nonneg _ (by decide), Int.lt_trans (Int.emod_lt_of_pos _ (by decide)) (by decide)⟩
            rw [upd_ne nlb]
            exact hl2
        · exact ⟨_, rfl, s1, B1⟩
      · exact ⟨_, rfl, s1, B1⟩
    · rintro σ' H1 ⟨y2, rfl, s1, ns, i, r, m, n, hb1, hl1, nlb, hlen, r0, m0, m1⟩
      -- if bag[2] > 0
      refine ⟨.ref b, rfl, b, _, 2, .int r, rfl, rfl, SqL.of hb1, atI_nat (j := 2) rfl, _, _, rfl, rfl, _, rfl, ?_⟩
      refine ite2 (fun _ => ?_) (fun _ => ?_)
      · refine ⟨.ref b, rfl, b, _, 2, .int r, rfl, rfl, SqL.of hb1, atI_nat (j := 2) rfl, .inl ⟨_, rfl, .int d, rfl, _, _, rfl, rfl, d0, ?_⟩⟩
        refine ⟨.ref b, rfl, b, _, 2, .int r, rfl, rfl, SqL.of hb1, atI_nat (j := 2) rfl, .int d, rfl, _, _, rfl, rfl, ⟨d0, d1⟩, .ref b, rfl, b, _, 2, 2, rfl, rfl, hb1, rfl, ?_⟩
        refine ⟨_, rfl, k _ _ (s1.trans Stp.put) ⟨ns, i, _, m, n, upd_same, ?_, nlb, hlen, Int.ediv_nonneg r0 (Int.le_of_lt d0), m0, m1⟩ (Int.emod_nonneg _ (by omega)) (Int.emod_lt_of_pos _ d0)⟩
        rw [upd_ne nlb]
        exact hl1
      · -- seed
        refine ⟨.ref b, rfl, b, _, 3, .int m, rfl, rfl, SqL.of hb1, atI_nat (j := 3) rfl, .inl ⟨_, rfl, ?_⟩⟩
        refine ⟨.int m, rfl, .int m, rfl, _, _, rfl, rfl, .inl ⟨by omega, by omega⟩, _, _, rfl, rfl, .inr ⟨by decide, by decide⟩, .int m, rfl, _, _, rfl, rfl, .inr ⟨by decide, by decide⟩, _, _, rfl, rfl,
          .ref b, rfl, b, _, 4, .int n, rfl, rfl, SqL.of hb1, atI_nat (j := 4) rfl, _, _, rfl, rfl, .inr ⟨by decide, by decide⟩, _, _, rfl, rfl, _, _, rfl, rfl, .inl ⟨_, rfl, _, _, rfl, rfl, (by show (0 : Int) < 2147483549; decide), .ref b, rfl, b, _, 3, 3, rfl, rfl, hb1, rfl, ?_⟩⟩
        have hm0 := Int.emod_nonneg (m * m * 19 + m * 47111 + n * 110323 + 60089) (show (2147483549 : Int) ≠ 0 by decide)
        have hm1 := Int.emod_lt_of_pos (m * m * 19 + m * 47111 + n * 110323 + 60089) (show (0 : Int) < 2147483549 by decide)
        have hb2 : (upd H1 b (.lst ([V.ref l, .int i, .int r, .int m, .int n].set 3 (.int ((m * m * 19 + m * 47111 + n * 110323 + 60089) % 2147483549))))) b = some (.lst [.ref l, .int i, .int r, .int ((m * m * 19 + m * 47111 + n * 110323 + 60089) % 2147483549), .int n]) := upd_same
        have hl2 : (upd H1 b (.lst ([V.ref l, .int i, .int r, .int m, .int n].set 3 (.int ((m * m * 19 + m * 47111 + n * 110323 + 60089) % 2147483549))))) l = some (.lst (ns.map V.int)) := by
          rw [upd_ne nlb]
          exact hl1
        have s2 : Stp b H (upd H1 b (.lst ([V.ref l, .int i, .int r, .int m, .int n].set 3 (.int ((m * m * 19 + m * 47111 + n * 110323 + 60089) % 2147483549))))) := s1.trans Stp.put
        generalize upd H1 b (.lst ([V.ref l, .int i, .int r, .int m, .int n].set 3 (.int ((m * m * 19 + m * 47111 + n * 110323 + 60089) % 2147483549)))) = H2 at hb2 hl2 s2 ⊢
        generalize (m * m * 19 + m * 47111 + n * 110323 + 60089) % 2147483549 = m2 at hb2 hm0 hm1 ⊢
        refine ⟨.ref b, rfl, b, _, 3, .int m2, rfl, rfl, SqL.of hb2, atI_nat (j := 3) rfl, _, _, rfl, rfl, ⟨by decide, by decide⟩, .ref b, rfl, b, _, 3, .int m2, rfl, rfl, SqL.of hb2, atI_nat (j := 3) rfl, .inl ⟨_, rfl, _, _, rfl, rfl, (by show (0 : Int) < 8017; decide), _, _, rfl, rfl, .inr ⟨by decide, by decide⟩, _, _, rfl, rfl, .inl ⟨_, rfl, .int d, rfl, _, _, rfl, rfl, d0, ?_⟩⟩⟩
        exact k _ _ s2 ⟨ns, i, r, m2, n, hb2, hl2, nlb, hlen, r0, hm0, by omega⟩ (Int.emod_nonneg _ (by omega)) (Int.emod_lt_of_pos _ d0)
/-! ### _law_of -/
/-- what is drawn from: a text, or a list that is not the bag; P what holds of each thing -/
def Thg (K : PySem.W.Frag) (H : Hp) (b : Addr) (t : V) (Pt : V → Prop) : Prop := (∃ z : Str, t = .str z ∧ 0 < z.cps.size ∧ z.cps.size ≤ 100000 ∧ ∀ c ∈ z.cps.toList, Pt (.str ⟨#[c]⟩)) ∨ ∃ (a : Addr) (xs : List V), t = .ref a ∧ a ≠ b ∧ SqL K H a xs ∧ 0 < xs.length ∧ xs.length ≤ 100000 ∧ ∀ v ∈ xs, Pt v
def sp_law_of (K : PySem.W.Frag) : Sp := fun vs H Q _ => ∃ (b l : Addr) (t : V) (Pt : V → Prop), vs = [.ref b, t] ∧ Bag H b l ∧ Thg K H b t Pt ∧ ∀ (H' : Hp) (v : V), Stp b H H' → Bag H' b l → Pt v → Q v H'
theorem ok_law_of (T : Txt K w mg Z) : FnOk P w K mg base CX0 2 Z.a_law_of Z.d_law_of ["_law_bag_here", "_law_things"] (sp_law_of K) := by
  have G_law_draw : FnOk P w K mg base CX0 1 Z.a_law_draw Z.d_law_draw ["_law_bag_here", "_law_sides"] sp_law_draw := ok_law_draw T
  refine T.F_law_of.ok sc_law_of (fun vs H Q E h => ?_) (fun cdv A outer s H vs Q E hr h => ?_)
  · obtain ⟨b, l, t, Pt, rfl, _⟩ := h
    rfl
  · obtain ⟨b, l, t, Pt, rfl, B, ht, k⟩ := h
    refine ⟨_, (pss_one (ps_ret (pe_ix ix_seq (pv 1) (pe_call G_law_draw (hr.mono (by omega)) (by rfl) T.m_law_draw T.F_law_draw.kp T.b_law_draw .nil pass0 (pa_cons (pv 0) (pa_cons (pe_callB call_len (by rfl) T.n_len boot_len (pa_cons (pv 1) pa_nil)) pa_nil))) (fun _ _ => rfl)))), ?_⟩
    rcases ht with ⟨z, rfl, z0, z1, hz⟩ | ⟨a, xs, rfl, nab, hx, x0, x1, hv⟩
    · refine ⟨_, rfl, .ref b, rfl, .str z, rfl, .str z, z.cps.size, rfl, ⟨Nat.le_trans z1 (by decide), rfl⟩, b, l, _, rfl, B, by omega, by omega, fun H' v s1 B1 v0 v1 => ?_⟩
      obtain ⟨c, hc, hm⟩ := mem_at (xs := z.cps.toList) v0 (by simpa using v1)
      exact .inr (.inr ⟨z, v, c, rfl, rfl, Nat.le_trans z1 (by decide), hc, k _ _ s1 B1 (hz c hm)⟩)
    · refine ⟨_, rfl, .ref b, rfl, .ref a, rfl, .ref a, xs.length, rfl, .inl ⟨_, hx, rfl⟩, b, l, _, rfl, B, by omega, by omega, fun H' v s1 B1 v0 v1 => ?_⟩
      obtain ⟨c, hc, hm⟩ := mem_at (xs := xs) v0 v1
      exact .inl ⟨a, xs, v, c, rfl, rfl, s1.sqL nab hx, hc, k _ _ s1 B1 (hv c hm)⟩
end

theorem iteN {p A B : Prop} [Decidable p] (h : ¬ p) (q : B) : if decide p = true then A else B := by
  rw [decide_eq_false h]
  exact iteF q
theorem iteY {p A B : Prop} [Decidable p] (h : p) (q : A) : if decide p = true then A else B := by
  rw [decide_eq_true h]
  exact iteT q
theorem Same.put {H H' : Hp} {p : Addr} {o : HO} (s : Same H H') (h : H p = none) : Same H (upd H' p o) := fun a u e => by
  rw [upd_ne (ne_of_none e h)]
  exact s a u e
theorem Same.sqT {K : PySem.W.Frag} {H H' : Hp} {a : Addr} {xs : List V} (e : Same H H') (h : SqT K H a xs) : SqT K H' a xs := by
  rcases h with (h | ⟨o, h⟩) | h
  · exact .inl (.inl (e _ _ h))
  · exact .inl (.inr ⟨o, e _ _ h⟩)
  · exact .inr h
theorem tyx_l {K : PySem.W.Frag} {H : Hp} {a : Addr} {xs : List V} (h : SqL K H a xs) : TyX K H (.ref a) (.type "list") := by
  rcases h with (h | ⟨o, h⟩) | ⟨o, its, n, h, hc, _⟩
  · exact .base (.lst h)
  · exact .base (.frz h)
  · exact .kList h hc
theorem tyx_t {K : PySem.W.Frag} {H : Hp} {a : Addr} {xs : List V} (h : SqT K H a xs) : TyX K H (.ref a) (.type "tuple") := by
  rcases h with (h | ⟨o, h⟩) | ⟨o, its, n, h, hc, _⟩
  · exact .base (.tup h)
  · exact .fTuple h
  · exact .kTuple h hc
/-- the name of a flat value's type -/
def flatT : V → String
  | .bl _ => "bool"
  | .int _ => "int"
  | .str _ => "str"
  | _ => "NoneType"
theorem tyx_f {K : PySem.W.Frag} {H : Hp} {x : V} (h : flatV x = true) : TyX K H x (.type (flatT x)) := by
  cases x with
  | non => exact .base .non
  | bl b => exact .base (.bl b)
  | int i => exact .base (.int i)
  | str z => exact .base (.str z)
  | _ => cases h
theorem walk_zipT {K : PySem.W.Frag} {a b : Addr} {xs ys : List V} {n : Nat} (hn : n = min xs.length ys.length) : Walk (RZ.ItzT K a b) n (fun H => SqT K H a xs ∧ SqT K H b ys) (YPair (fun i => xs[i]?) (fun i => ys[i]?)) := by
  subst hn
  refine ⟨fun i _ hi q => ?_, fun _ q => ⟨xs, ys, q.1, q.2, by omega⟩, fun i H v H' _ q y => ?_⟩
  · have h1 : i < xs.length := by omega
    have h2 : i < ys.length := by omega
    exact ⟨xs, ys, xs[i], ys[i], q.1, q.2, by simp [h1], by simp [h2]⟩
  · obtain ⟨T, x, z, h1, h2, h3, h4, h5⟩ := y
    exact ⟨T, x, z, h1, h2, h3, h4 xs q.1, h5 ys q.2⟩
theorem all_rep (n : Nat) : (List.replicate n true).all id = true := by
  rw [List.all_eq_true]
  intro x hx
  rw [(List.mem_replicate.mp hx).2]
  rfl
/-- two values that are the same data, n deep at most -/
def Eqd (K : PySem.W.Frag) (H : Hp) : Nat → V → V → Prop
  | 0, x, y => flatV x = true ∧ x = y
  | n + 1, x, y => (flatV x = true ∧ x = y) ∨ ∃ (a b : Addr) (xs ys : List V), x = .ref a ∧ y = .ref b ∧ ((SqL K H a xs ∧ SqL K H b ys) ∨ (SqT K H a xs ∧ SqT K H b ys)) ∧ xs.length = ys.length ∧ xs.length ≤ 100000 ∧ ∀ (i : Nat) (u v : V), xs[i]? = some u → ys[i]? = some v → Eqd K H n u v
theorem Eqd.same {K : PySem.W.Frag} {H H' : Hp} (s : Same H H') : ∀ {n : Nat} {x y : V}, Eqd K H n x y → Eqd K H' n x y
  | 0, _, _, h => h
  | n + 1, _, _, .inl h => .inl h
  | n + 1, _, _, .inr ⟨a, b, xs, ys, e1, e2, h, hl, hz, hi⟩ => .inr ⟨a, b, xs, ys, e1, e2, by
      rcases h with ⟨h1, h2⟩ | ⟨h1, h2⟩
      · exact .inl ⟨s.seq h1, s.seq h2⟩
      · exact .inr ⟨Same.sqT s h1, Same.sqT s h2⟩, hl, hz, fun i u v hu hv => (hi i u v hu hv).same s⟩
theorem Eqd.flat {K : PySem.W.Frag} {H : Hp} {n : Nat} {x : V} (h : flatV x = true) : Eqd K H n x x := by
  cases n with
  | zero => exact ⟨h, rfl⟩
  | succ n => exact .inl ⟨h, rfl⟩
theorem kitLT {K : PySem.W.Frag} {T : String} (h1 : kitB T "list" = some false) (h2 : kitB T "tuple" = some false) : PySem.W.kitAny K (.type T) [.type "list", .type "tuple"] = some false :=
  kitAny_cons (b := false) (kit_ty h1) (fun _ => kitAny_cons (b := false) (kit_ty h2) (fun _ => kitAny_nil) fun e => nomatch e) fun e => nomatch e
theorem kitLl {K : PySem.W.Frag} : PySem.W.kitAny K (.type "list") [.type "list", .type "tuple"] = some true :=
  kitAny_cons (b := true) (kit_ty (by decide +kernel)) (fun e => nomatch e) fun _ => rfl
theorem kitLt {K : PySem.W.Frag} : PySem.W.kitAny K (.type "tuple") [.type "list", .type "tuple"] = some true :=
  kitAny_cons (b := false) (kit_ty (by decide +kernel)) (fun _ => kitAny_cons (b := true) (kit_ty (by decide +kernel)) (fun e => nomatch e) fun _ => rfl) fun e => nomatch e

section
variable {P : Program} {w : World} {K : PySem.W.Frag} {mg : Str → Option Value} {base : Heap} {Z : Fs}
/-! ### _law_same -/
def sp_law_same (K : PySem.W.Frag) (n : Nat) : Sp := fun vs H Q _ => ∃ x y : V, vs = [x, y] ∧ Eqd K H n x y ∧ ∀ H' : Hp, Same H H' → Q (.bl true) H'
theorem ok_law_same (T : Txt K w mg Z) : ∀ n : Nat, FnOk P w K mg base CX0 (n + 1) Z.a_law_same Z.d_law_same ["_law_found", "_law_due_here"] (sp_law_same K n)
  | 0 => by
    refine T.F_law_same.ok sc_law_same (fun vs H Q E h => ?_) (fun cdv A outer s H vs Q E hr h => ?_)
    · obtain ⟨x, y, rfl, _⟩ := h
      rfl
    · obtain ⟨x, y, rfl, ⟨hf, rfl⟩, k⟩ := h
      refine ⟨_, (pss_cons (ps_if (PW.pt (pw_or (pt_cmp (pc_isN (pv 1))) (pw_or1 (pt_cmp (pc_isN (pv 0)))))) (pss_one (ps_ret (pe_and (pe_cmp (pc_isN (pv 1)) rfl) (pe_one (pe_cmp (pc_isN (pv 0)) rfl))))) pss_nil)
      (pss_cons (ps_if (pt_val (pe_callB call_isiT (by rfl) T.n_isinstance boot_isinstance (pa_cons (pv 1) (pa_cons (pe_tup (pa_cons (pe_bltn (v := .ty "list") (by rfl) T.n_list boot_list rfl) (pa_cons (pe_bltn (v := .ty "tuple") (by rfl) T.n_tuple boot_tuple rfl) pa_nil))) pa_nil)))) pss_never pss_nil)
      (pss_cons (ps_if (PW.pt (pw_or (pt_cmpR op_ne (pe_callB call_isi (by rfl) T.n_isinstance boot_isinstance (pa_cons (pv 1) (pa_cons (pe_bltn (v := .ty "bool") (by rfl) T.n_bool boot_bool rfl) pa_nil))) (pe_callB call_isi (by rfl) T.n_isinstance boot_isinstance (pa_cons (pv 0) (pa_cons (pe_bltn (v := .ty "bool") (by rfl) T.n_bool boot_bool rfl) pa_nil))) (nomark _)) (pw_or1 (pt_cmpR op_ne (pe_callB call_isi (by rfl) T.n_isinstance boot_isinstance (pa_cons (pv 1) (pa_cons (pe_bltn (v := .ty "int") (by rfl) T.n_int boot_int rfl) pa_nil))) (pe_callB call_isi (by rfl) T.n_isinstance boot_isinstance (pa_cons (pv 0) (pa_cons (pe_bltn (v := .ty "int") (by rfl) T.n_int boot_int rfl) pa_nil))) (nomark _))))) (pss_one (ps_ret pe_bl)) pss_nil)
      (pss_one (ps_ret (pe_and (pe_cmpR op_eq (pe_callB call_isi (by rfl) T.n_isinstance boot_isinstance (pa_cons (pv 1) (pa_cons (pe_bltn (v := .ty "str") (by rfl) T.n_str boot_str rfl) pa_nil))) (pe_callB call_isi (by rfl) T.n_isinstance boot_isinstance (pa_cons (pv 0) (pa_cons (pe_bltn (v := .ty "str") (by rfl) T.n_str boot_str rfl) pa_nil))) (nomark _)) (pe_one (pe_cmpR op_eq (pv 0) (pv 1) (nomark _))))))))), ?_⟩
      cases x with
      | non => exact ⟨.non, rfl, _, rfl, iteY rfl ⟨.non, rfl, _, rfl, iteY rfl ⟨.non, rfl, k _ (Same.refl _)⟩⟩⟩
      | bl v =>
        refine ⟨.bl v, rfl, _, rfl, iteN (fun e => nomatch e) ⟨.bl v, rfl, _, rfl, iteN (fun e => nomatch e) ?_⟩⟩
        refine ⟨.bl v, rfl, (by show 2 ≤ sizeLine; decide), fun p hp => ⟨.bl v, p, _, _, _, false, rfl, upd_same, .cons (.ty _) (.cons (.ty _) .nil), .base (.bl v), kitLT (by decide +kernel) (by decide +kernel), _, rfl, iteF ?_⟩⟩
        refine ⟨.bl v, rfl, .bl v, .ty "bool", _, _, true, rfl, .ty _, .base (.bl v), kit_ty (by decide +kernel), .bl v, rfl, .bl v, .ty "bool", _, _, true, rfl, .ty _, .base (.bl v), kit_ty (by decide +kernel), rfl, _, rfl, iteNS rfl ?_⟩
        refine ⟨.bl v, rfl, .bl v, .ty "int", _, _, true, rfl, .ty _, .base (.bl v), kit_ty (by decide +kernel), .bl v, rfl, .bl v, .ty "int", _, _, true, rfl, .ty _, .base (.bl v), kit_ty (by decide +kernel), rfl, _, rfl, iteNS rfl ?_⟩
        refine ⟨.bl v, rfl, .bl v, .ty "str", _, _, false, rfl, .ty _, .base (.bl v), kit_ty (by decide +kernel), .bl v, rfl, .bl v, .ty "str", _, _, false, rfl, .ty _, .base (.bl v), kit_ty (by decide +kernel), rfl, _, rfl, iteY rfl ?_⟩
        refine ⟨.bl v, rfl, .bl v, rfl, rfl, ?_⟩
        show Q (.bl (decide (V.bl v = V.bl v))) _
        rw [decide_eq_true rfl]
        exact k _ (Same.new hp)
      | int v =>
        refine ⟨.int v, rfl, _, rfl, iteN (fun e => nomatch e) ⟨.int v, rfl, _, rfl, iteN (fun e => nomatch e) ?_⟩⟩
        refine ⟨.int v, rfl, (by show 2 ≤ sizeLine; decide), fun p hp => ⟨.int v, p, _, _, _, false, rfl, upd_same, .cons (.ty _) (.cons (.ty _) .nil), .base (.int v), kitLT (by decide +kernel) (by decide +kernel), _, rfl, iteF ?_⟩⟩
        refine ⟨.int v, rfl, .int v, .ty "bool", _, _, false, rfl, .ty _, .base (.int v), kit_ty (by decide +kernel), .int v, rfl, .int v, .ty "bool", _, _, false, rfl, .ty _, .base (.int v), kit_ty (by decide +kernel), rfl, _, rfl, iteNS rfl ?_⟩
        refine ⟨.int v, rfl, .int v, .ty "int", _, _, true, rfl, .ty _, .base (.int v), kit_ty (by decide +kernel), .int v, rfl, .int v, .ty "int", _, _, true, rfl, .ty _, .base (.int v), kit_ty (by decide +kernel), rfl, _, rfl, iteNS rfl ?_⟩
        refine ⟨.int v, rfl, .int v, .ty "str", _, _, false, rfl, .ty _, .base (.int v), kit_ty (by decide +kernel), .int v, rfl, .int v, .ty "str", _, _, false, rfl, .ty _, .base (.int v), kit_ty (by decide +kernel), rfl, _, rfl, iteY rfl ?_⟩
        refine ⟨.int v, rfl, .int v, rfl, rfl, ?_⟩
        show Q (.bl (decide (V.int v = V.int v))) _
        rw [decide_eq_true rfl]
        exact k _ (Same.new hp)
      | str v =>
        refine ⟨.str v, rfl, _, rfl, iteN (fun e => nomatch e) ⟨.str v, rfl, _, rfl, iteN (fun e => nomatch e) ?_⟩⟩
        refine ⟨.str v, rfl, (by show 2 ≤ sizeLine; decide), fun p hp => ⟨.str v, p, _, _, _, false, rfl, upd_same, .cons (.ty _) (.cons (.ty _) .nil), .base (.str v), kitLT (by decide +kernel) (by decide +kernel), _, rfl, iteF ?_⟩⟩
        refine ⟨.str v, rfl, .str v, .ty "bool", _, _, false, rfl, .ty _, .base (.str v), kit_ty (by decide +kernel), .str v, rfl, .str v, .ty "bool", _, _, false, rfl, .ty _, .base (.str v), kit_ty (by decide +kernel), rfl, _, rfl, iteNS rfl ?_⟩
        refine ⟨.str v, rfl, .str v, .ty "int", _, _, false, rfl, .ty _, .base (.str v), kit_ty (by decide +kernel), .str v, rfl, .str v, .ty "int", _, _, false, rfl, .ty _, .base (.str v), kit_ty (by decide +kernel), rfl, _, rfl, iteNS rfl ?_⟩
        refine ⟨.str v, rfl, .str v, .ty "str", _, _, true, rfl, .ty _, .base (.str v), kit_ty (by decide +kernel), .str v, rfl, .str v, .ty "str", _, _, true, rfl, .ty _, .base (.str v), kit_ty (by decide +kernel), rfl, _, rfl, iteY rfl ?_⟩
        refine ⟨.str v, rfl, .str v, rfl, rfl, ?_⟩
        show Q (.bl (decide (V.str v = V.str v))) _
        rw [decide_eq_true rfl]
        exact k _ (Same.new hp)
      | _ => cases hf
  | n + 1 => by
    have G_law_same : FnOk P w K mg base CX0 (n + 1) Z.a_law_same Z.d_law_same ["_law_found", "_law_due_here"] (sp_law_same K n) := ok_law_same T n
    refine T.F_law_same.ok sc_law_same (fun vs H Q E h => ?_) (fun cdv A outer s H vs Q E hr h => ?_)
    · obtain ⟨x, y, rfl, _⟩ := h
      rfl
    · obtain ⟨x, y, rfl, hd, k⟩ := h
      refine ⟨_, (pss_cons (ps_if (PW.pt (pw_or (pt_cmp (pc_isN (pv 1))) (pw_or1 (pt_cmp (pc_isN (pv 0)))))) (pss_one (ps_ret (pe_and (pe_cmp (pc_isN (pv 1)) rfl) (pe_one (pe_cmp (pc_isN (pv 0)) rfl))))) pss_nil)
      (pss_cons (ps_if (pt_val (pe_callB call_isiT (by rfl) T.n_isinstance boot_isinstance (pa_cons (pv 1) (pa_cons (pe_tup (pa_cons (pe_bltn (v := .ty "list") (by rfl) T.n_list boot_list rfl) (pa_cons (pe_bltn (v := .ty "tuple") (by rfl) T.n_tuple boot_tuple rfl) pa_nil))) pa_nil)))) (pss_cons (ps_if (PW.pt (pw_or (pt_cmpR op_ne (pe_callB call_isi (by rfl) T.n_isinstance boot_isinstance (pa_cons (pv 0) (pa_cons (pe_bltn (v := .ty "list") (by rfl) T.n_list boot_list rfl) pa_nil))) (pe_callB call_isi (by rfl) T.n_isinstance boot_isinstance (pa_cons (pv 1) (pa_cons (pe_bltn (v := .ty "list") (by rfl) T.n_list boot_list rfl) pa_nil))) (nomark _)) (pw_or1 (pt_cmpR op_ne (pe_callB call_isi (by rfl) T.n_isinstance boot_isinstance (pa_cons (pv 0) (pa_cons (pe_bltn (v := .ty "tuple") (by rfl) T.n_tuple boot_tuple rfl) pa_nil))) (pe_callB call_isi (by rfl) T.n_isinstance boot_isinstance (pa_cons (pv 1) (pa_cons (pe_bltn (v := .ty "tuple") (by rfl) T.n_tuple boot_tuple rfl) pa_nil))) (nomark _))))) (pss_one (ps_ret pe_bl)) pss_nil)
      (pss_one (ps_ret (pe_and (pe_cmpR op_eq (pe_callB call_len (by rfl) T.n_len boot_len (pa_cons (pv 0) pa_nil)) (pe_callB call_len (by rfl) T.n_len boot_len (pa_cons (pv 1) pa_nil)) (nomark _)) (pe_one (pe_callB (cr_all rfl) (by rfl) T.n_all boot_all (pa_cons (pe_lc (own := [("_law_a", 2), ("_law_b", 3)]) (g := gTup K 2 (gCons (gName 2) (gCons (gName 3) gNil))) (tt := tYes) rfl sc_law_same.nd (RZ.pi_zipA (by rfl) T.n_zip (pa_cons (pv 0) (pa_cons (pv 1) pa_nil))) (blkOk_by (N := N_law_same) (sc := defScope s_law_same) (by decide +kernel)) (fun _ _ _ _ _ => pg_tup rfl (pgs_cons (pg_name (i := 2) sc_law_same.nd rfl (Or.inl rfl)) (pgs_cons (pg_name (i := 3) sc_law_same.nd rfl (Or.inl rfl)) pgs_nil))) (fun _ _ _ _ _ => pts_nil) (fun _ _ _ _ _ => (pe_call G_law_same (hr.mono (by omega)) (by rfl) T.m_law_same T.F_law_same.kp T.b_law_same .nil pass0 (pa_cons (pv 2) (pa_cons (pv 3) pa_nil))))) pa_nil))))))) pss_nil)
      (pss_cons (ps_if (PW.pt (pw_or (pt_cmpR op_ne (pe_callB call_isi (by rfl) T.n_isinstance boot_isinstance (pa_cons (pv 1) (pa_cons (pe_bltn (v := .ty "bool") (by rfl) T.n_bool boot_bool rfl) pa_nil))) (pe_callB call_isi (by rfl) T.n_isinstance boot_isinstance (pa_cons (pv 0) (pa_cons (pe_bltn (v := .ty "bool") (by rfl) T.n_bool boot_bool rfl) pa_nil))) (nomark _)) (pw_or1 (pt_cmpR op_ne (pe_callB call_isi (by rfl) T.n_isinstance boot_isinstance (pa_cons (pv 1) (pa_cons (pe_bltn (v := .ty "int") (by rfl) T.n_int boot_int rfl) pa_nil))) (pe_callB call_isi (by rfl) T.n_isinstance boot_isinstance (pa_cons (pv 0) (pa_cons (pe_bltn (v := .ty "int") (by rfl) T.n_int boot_int rfl) pa_nil))) (nomark _))))) (pss_one (ps_ret pe_bl)) pss_nil)
      (pss_one (ps_ret (pe_and (pe_cmpR op_eq (pe_callB call_isi (by rfl) T.n_isinstance boot_isinstance (pa_cons (pv 1) (pa_cons (pe_bltn (v := .ty "str") (by rfl) T.n_str boot_str rfl) pa_nil))) (pe_callB call_isi (by rfl) T.n_isinstance boot_isinstance (pa_cons (pv 0) (pa_cons (pe_bltn (v := .ty "str") (by rfl) T.n_str boot_str rfl) pa_nil))) (nomark _)) (pe_one (pe_cmpR op_eq (pv 0) (pv 1) (nomark _))))))))), ?_⟩
      rcases hd with ⟨hf, rfl⟩ | ⟨a, b, xs, ys, rfl, rfl, hd, hl, hz, hi⟩
      · cases x with
        | non => exact ⟨.non, rfl, _, rfl, iteY rfl ⟨.non, rfl, _, rfl, iteY rfl ⟨.non, rfl, k _ (Same.refl _)⟩⟩⟩
        | bl v =>
          refine ⟨.bl v, rfl, _, rfl, iteN (fun e => nomatch e) ⟨.bl v, rfl, _, rfl, iteN (fun e => nomatch e) ?_⟩⟩
          refine ⟨.bl v, rfl, (by show 2 ≤ sizeLine; decide), fun p hp => ⟨.bl v, p, _, _, _, false, rfl, upd_same, .cons (.ty _) (.cons (.ty _) .nil), .base (.bl v), kitLT (by decide +kernel) (by decide +kernel), _, rfl, iteF ?_⟩⟩
          refine ⟨.bl v, rfl, .bl v, .ty "bool", _, _, true, rfl, .ty _, .base (.bl v), kit_ty (by decide +kernel), .bl v, rfl, .bl v, .ty "bool", _, _, true, rfl, .ty _, .base (.bl v), kit_ty (by decide +kernel), rfl, _, rfl, iteNS rfl ?_⟩
          refine ⟨.bl v, rfl, .bl v, .ty "int", _, _, true, rfl, .ty _, .base (.bl v), kit_ty (by decide +kernel), .bl v, rfl, .bl v, .ty "int", _, _, true, rfl, .ty _, .base (.bl v), kit_ty (by decide +kernel), rfl, _, rfl, iteNS rfl ?_⟩
          refine ⟨.bl v, rfl, .bl v, .ty "str", _, _, false, rfl, .ty _, .base (.bl v), kit_ty (by decide +kernel), .bl v, rfl, .bl v, .ty "str", _, _, false, rfl, .ty _, .base (.bl v), kit_ty (by decide +kernel), rfl, _, rfl, iteY rfl ?_⟩
          refine ⟨.bl v, rfl, .bl v, rfl, rfl, ?_⟩
          show Q (.bl (decide (V.bl v = V.bl v))) _
          rw [decide_eq_true rfl]
          exact k _ (Same.new hp)
        | int v =>
          refine ⟨.int v, rfl, _, rfl, iteN (fun e => nomatch e) ⟨.int v, rfl, _, rfl, iteN (fun e => nomatch e) ?_⟩⟩
          refine ⟨.int v, rfl, (by show 2 ≤ sizeLine; decide), fun p hp => ⟨.int v, p, _, _, _, false, rfl, upd_same, .cons (.ty _) (.cons (.ty _) .nil), .base (.int v), kitLT (by decide +kernel) (by decide +kernel), _, rfl, iteF ?_⟩⟩
          refine ⟨.int v, rfl, .int v, .ty "bool", _, _, false, rfl, .ty _, .base (.int v), kit_ty (by decide +kernel), .int v, rfl, .int v, .ty "bool", _, _, false, rfl, .ty _, .base (.int v), kit_ty (by decide +kernel), rfl, _, rfl, iteNS rfl ?_⟩
          refine ⟨.int v, rfl, .int v, .ty "int", _, _, true, rfl, .ty _, .base (.int v), kit_ty (by decide +kernel), .int v, rfl, .int v, .ty "int", _, _, true, rfl, .ty _, .base (.int v), kit_ty (by decide +kernel), rfl, _, rfl, iteNS rfl ?_⟩
          refine ⟨.int v, rfl, .int v, .ty "str", _, _, false, rfl, .ty _, .base (.int v), kit_ty (by decide +kernel), .int v, rfl, .int v, .ty "str", _, _, false, rfl, .ty _, .base (.int v), kit_ty (by decide +kernel), rfl, _, rfl, iteY rfl ?_⟩
          refine ⟨.int v, rfl, .int v, rfl, rfl, ?_⟩
          show Q (.bl (decide (V.int v = V.int v))) _
          rw [decide_eq_true rfl]
          exact k _ (Same.new hp)
        | str v =>
          refine ⟨.str v, rfl, _, rfl, iteN (fun e => nomatch e) ⟨.str v, rfl, _, rfl, iteN (fun e => nomatch e) ?_⟩⟩
          refine ⟨.str v, rfl, (by show 2 ≤ sizeLine; decide), fun p hp => ⟨.str v, p, _, _, _, false, rfl, upd_same, .cons (.ty _) (.cons (.ty _) .nil), .base (.str v), kitLT (by decide +kernel) (by decide +kernel), _, rfl, iteF ?_⟩⟩
          refine ⟨.str v, rfl, .str v, .ty "bool", _, _, false, rfl, .ty _, .base (.str v), kit_ty (by decide +kernel), .str v, rfl, .str v, .ty "bool", _, _, false, rfl, .ty _, .base (.str v), kit_ty (by decide +kernel), rfl, _, rfl, iteNS rfl ?_⟩
          refine ⟨.str v, rfl, .str v, .ty "int", _, _, false, rfl, .ty _, .base (.str v), kit_ty (by decide +kernel), .str v, rfl, .str v, .ty "int", _, _, false, rfl, .ty _, .base (.str v), kit_ty (by decide +kernel), rfl, _, rfl, iteNS rfl ?_⟩
          refine ⟨.str v, rfl, .str v, .ty "str", _, _, true, rfl, .ty _, .base (.str v), kit_ty (by decide +kernel), .str v, rfl, .str v, .ty "str", _, _, true, rfl, .ty _, .base (.str v), kit_ty (by decide +kernel), rfl, _, rfl, iteY rfl ?_⟩
          refine ⟨.str v, rfl, .str v, rfl, rfl, ?_⟩
          show Q (.bl (decide (V.str v = V.str v))) _
          rw [decide_eq_true rfl]
          exact k _ (Same.new hp)
        | _ => cases hf
      · refine ⟨.ref b, rfl, _, rfl, iteN (fun e => nomatch e) ⟨.ref a, rfl, _, rfl, iteN (fun e => nomatch e) ?_⟩⟩
        rcases hd with ⟨h1, h2⟩ | ⟨h1, h2⟩
        · refine ⟨.ref b, rfl, (by show 2 ≤ sizeLine; decide), fun p hp => ?_⟩
          have s1 : Same H (upd H p (.tup [.ty "list", .ty "tuple"])) := Same.new hp
          refine ⟨.ref b, p, _, _, _, true, rfl, upd_same, .cons (.ty _) (.cons (.ty _) .nil), tyx_l (s1.seq h2), kitLl, _, rfl, iteT ?_⟩
          generalize upd H p (.tup [.ty "list", .ty "tuple"]) = H1 at s1 ⊢
          have g1 := s1.seq h1
          have g2 := s1.seq h2
          refine ⟨.ref a, rfl, .ref a, .ty "list", _, _, true, rfl, .ty _, tyx_l g1, kit_ty (by decide +kernel), .ref b, rfl, .ref b, .ty "list", _, _, true, rfl, .ty _, tyx_l g2, kit_ty (by decide +kernel), rfl, _, rfl, iteNS rfl ?_⟩
          refine ⟨.ref a, rfl, .ref a, .ty "tuple", _, _, false, rfl, .ty _, tyx_l g1, kit_ty (by decide +kernel), .ref b, rfl, .ref b, .ty "tuple", _, _, false, rfl, .ty _, tyx_l g2, kit_ty (by decide +kernel), rfl, _, rfl, iteNS rfl ?_⟩
          refine ⟨.ref a, rfl, .ref a, _, rfl, .inl ⟨_, g1, rfl⟩, .ref b, rfl, .ref b, _, rfl, .inl ⟨_, g2, rfl⟩, rfl, _, rfl, iteY (by rw [hl]) ?_⟩
          refine ⟨.ref a, rfl, .ref b, rfl, a, b, xs, ys, rfl, .inl ⟨g1, g2, fun D hD => ?_⟩⟩
          have hD0 : H D = none := s1.free hD
          refine lc_it (walk_zip (K := K) (xs := xs) (ys := ys) (n := xs.length) (by omega)) (fun i H' => Same H H' ∧ H' D = some (.lst ((List.replicate i true).map V.bl))) ⟨Same.put s1 hD0, upd_same⟩ (fun i H' _ q => ⟨q.1.seq h1, q.1.seq h2⟩) ?_ ?_
          · rintro i v H2 H3 hi' ⟨s2, e2⟩ ⟨T, u, t, rfl, hT, rfl, hu, ht⟩
            refine ⟨T, [u, t], rfl, SqT.of upd_same, rfl, u, [t], rfl, t, [], rfl, rfl, rfl, u, rfl, t, rfl, u, t, rfl, ((hi i u t hu ht).same s2).same (Same.new hT), fun H4 s4 => ?_⟩
            have nDT : D ≠ T := ne_of_none e2 hT
            refine ⟨_, s4 _ _ (by rw [upd_ne nDT]; exact e2), ?_, (Same.put ((s2.trans (Same.new hT)).trans s4) hD0), ?_⟩
            · rw [List.length_map, List.length_replicate]
              exact Nat.lt_of_lt_of_le hi' (Nat.le_trans hz (by decide))
            · rw [upd_same, List.replicate_succ', List.map_append]
              rfl
          · rintro H' ⟨s2, e2⟩
            refine ⟨D, List.replicate xs.length true, rfl, SqL.of e2, ?_⟩
            rw [all_rep]
            exact k _ s2
        · refine ⟨.ref b, rfl, (by show 2 ≤ sizeLine; decide), fun p hp => ?_⟩
          have s1 : Same H (upd H p (.tup [.ty "list", .ty "tuple"])) := Same.new hp
          refine ⟨.ref b, p, _, _, _, true, rfl, upd_same, .cons (.ty _) (.cons (.ty _) .nil), tyx_t (Same.sqT s1 h2), kitLt, _, rfl, iteT ?_⟩
          generalize upd H p (.tup [.ty "list", .ty "tuple"]) = H1 at s1 ⊢
          have g1 := Same.sqT s1 h1
          have g2 := Same.sqT s1 h2
          refine ⟨.ref a, rfl, .ref a, .ty "list", _, _, false, rfl, .ty _, tyx_t g1, kit_ty (by decide +kernel), .ref b, rfl, .ref b, .ty "list", _, _, false, rfl, .ty _, tyx_t g2, kit_ty (by decide +kernel), rfl, _, rfl, iteNS rfl ?_⟩
          refine ⟨.ref a, rfl, .ref a, .ty "tuple", _, _, true, rfl, .ty _, tyx_t g1, kit_ty (by decide +kernel), .ref b, rfl, .ref b, .ty "tuple", _, _, true, rfl, .ty _, tyx_t g2, kit_ty (by decide +kernel), rfl, _, rfl, iteNS rfl ?_⟩
          refine ⟨.ref a, rfl, .ref a, _, rfl, .inr ⟨_, g1, rfl⟩, .ref b, rfl, .ref b, _, rfl, .inr ⟨_, g2, rfl⟩, rfl, _, rfl, iteY (by rw [hl]) ?_⟩
          refine ⟨.ref a, rfl, .ref b, rfl, a, b, xs, ys, rfl, .inr ⟨g1, g2, fun D hD => ?_⟩⟩
          have hD0 : H D = none := s1.free hD
          refine lc_it (walk_zipT (K := K) (xs := xs) (ys := ys) (n := xs.length) (by omega)) (fun i H' => Same H H' ∧ H' D = some (.lst ((List.replicate i true).map V.bl))) ⟨Same.put s1 hD0, upd_same⟩ (fun i H' _ q => ⟨Same.sqT q.1 h1, Same.sqT q.1 h2⟩) ?_ ?_
          · rintro i v H2 H3 hi' ⟨s2, e2⟩ ⟨T, u, t, rfl, hT, rfl, hu, ht⟩
            refine ⟨T, [u, t], rfl, SqT.of upd_same, rfl, u, [t], rfl, t, [], rfl, rfl, rfl, u, rfl, t, rfl, u, t, rfl, ((hi i u t hu ht).same s2).same (Same.new hT), fun H4 s4 => ?_⟩
            have nDT : D ≠ T := ne_of_none e2 hT
            refine ⟨_, s4 _ _ (by rw [upd_ne nDT]; exact e2), ?_, (Same.put ((s2.trans (Same.new hT)).trans s4) hD0), ?_⟩
            · rw [List.length_map, List.length_replicate]
              exact Nat.lt_of_lt_of_le hi' (Nat.le_trans hz (by decide))
            · rw [upd_same, List.replicate_succ', List.map_append]
              rfl
          · rintro H' ⟨s2, e2⟩
            refine ⟨D, List.replicate xs.length true, rfl, SqL.of e2, ?_⟩
            rw [all_rep]
            exact k _ s2
end

/-! ### values of every kind -/
/-- a text of ordinary size and signs -/
def StrK (z : Str) : Prop := z.cps.size ≤ 100000 ∧ ∀ c ∈ z.cps.toList, c < 1114112
/-- a value of data, n deep at most, none of whose lists is the bag -/
def Okv (K : PySem.W.Frag) (H : Hp) (b : Addr) : Nat → V → Prop
  | 0, v => flatV v = true ∧ ∀ z, v = .str z → StrK z
  | n + 1, v => (flatV v = true ∧ ∀ z, v = .str z → StrK z) ∨ ∃ (a : Addr) (xs : List V), v = .ref a ∧ a ≠ b ∧ (SqL K H a xs ∨ SqT K H a xs) ∧ xs.length ≤ 100000 ∧ ∀ x ∈ xs, Okv K H b n x
theorem Okv.stp {K : PySem.W.Frag} {H H' : Hp} {b : Addr} (s : Stp b H H') : ∀ {n : Nat} {v : V}, Okv K H b n v → Okv K H' b n v
  | 0, _, h => h
  | n + 1, _, .inl h => .inl h
  | n + 1, _, .inr ⟨a, xs, e, ne, h, hl, hx⟩ => .inr ⟨a, xs, e, ne, h.imp (s.sqL ne) (s.sqT ne), hl, fun x m => (hx x m).stp s⟩
theorem Okv.eqd {K : PySem.W.Frag} {H : Hp} {b : Addr} : ∀ {n : Nat} {v : V}, Okv K H b n v → Eqd K H n v v
  | 0, _, h => ⟨h.1, rfl⟩
  | n + 1, _, .inl h => .inl ⟨h.1, rfl⟩
  | n + 1, _, .inr ⟨a, xs, e, _, h, hl, hx⟩ => .inr ⟨a, a, xs, xs, e, e, h.imp (fun q => ⟨q, q⟩) (fun q => ⟨q, q⟩), rfl, hl, fun i u v hu hv => by
      rw [hu] at hv
      cases hv
      exact (hx u (List.mem_of_getElem? hu)).eqd⟩
theorem Okv.of_flat {K : PySem.W.Frag} {H : Hp} {b : Addr} {n : Nat} {v : V} (h : flatV v = true) (hz : ∀ z, v = .str z → StrK z) : Okv K H b n v := by
  cases n with
  | zero => exact ⟨h, hz⟩
  | succ n => exact .inl ⟨h, hz⟩
theorem Okv.non {K : PySem.W.Frag} {H : Hp} {b : Addr} {n : Nat} : Okv K H b n .non := .of_flat rfl (fun _ e => nomatch e)
theorem Okv.bl {K : PySem.W.Frag} {H : Hp} {b : Addr} {n : Nat} {k : Bool} : Okv K H b n (.bl k) := .of_flat rfl (fun _ e => nomatch e)
theorem Okv.int {K : PySem.W.Frag} {H : Hp} {b : Addr} {n : Nat} {i : Int} : Okv K H b n (.int i) := .of_flat rfl (fun _ e => nomatch e)
theorem Okv.str {K : PySem.W.Frag} {H : Hp} {b : Addr} {n : Nat} {z : Str} (h : StrK z) : Okv K H b n (.str z) := .of_flat rfl (fun _ e => by cases e; exact h)
/-- what kind it is -/
def isS : V → Bool
  | .str _ => true
  | _ => false
def isB : V → Bool
  | .bl _ => true
  | _ => false
def isI : V → Bool
  | .int _ => true
  | .bl _ => true
  | _ => false
theorem Okv.ty {K : PySem.W.Frag} {H : Hp} {b : Addr} {n : Nat} {v : V} (h : Okv K H b n v) : ∃ t, TyX K H v t ∧ PySem.W.kitOne K t (.type "str") = some (isS v) ∧ PySem.W.kitOne K t (.type "bool") = some (isB v) ∧ PySem.W.kitOne K t (.type "int") = some (isI v) := by
  have fl : flatV v = true → ∃ t, TyX K H v t ∧ PySem.W.kitOne K t (.type "str") = some (isS v) ∧ PySem.W.kitOne K t (.type "bool") = some (isB v) ∧ PySem.W.kitOne K t (.type "int") = some (isI v) := fun hf => by
    cases v with
    | non => exact ⟨_, .base .non, kit_ty (by decide +kernel), kit_ty (by decide +kernel), kit_ty (by decide +kernel)⟩
    | bl k => exact ⟨_, .base (.bl k), kit_ty (show kitB "bool" "str" = some false by decide +kernel), kit_ty (show kitB "bool" "bool" = some true by decide +kernel), kit_ty (show kitB "bool" "int" = some true by decide +kernel)⟩
    | int i => exact ⟨_, .base (.int i), kit_ty (show kitB "int" "str" = some false by decide +kernel), kit_ty (show kitB "int" "bool" = some false by decide +kernel), kit_ty (show kitB "int" "int" = some true by decide +kernel)⟩
    | str z => exact ⟨_, .base (.str z), kit_ty (show kitB "str" "str" = some true by decide +kernel), kit_ty (show kitB "str" "bool" = some false by decide +kernel), kit_ty (show kitB "str" "int" = some false by decide +kernel)⟩
    | _ => cases hf
  cases n with
  | zero => exact fl h.1
  | succ n =>
    rcases h with h | ⟨a, xs, rfl, _, h | h, _⟩
    · exact fl h.1
    · exact ⟨_, tyx_l h, kit_ty (show kitB "list" "str" = some false by decide +kernel), kit_ty (show kitB "list" "bool" = some false by decide +kernel), kit_ty (show kitB "list" "int" = some false by decide +kernel)⟩
    · exact ⟨_, tyx_t h, kit_ty (show kitB "tuple" "str" = some false by decide +kernel), kit_ty (show kitB "tuple" "bool" = some false by decide +kernel), kit_ty (show kitB "tuple" "int" = some false by decide +kernel)⟩
theorem Okv.strK {K : PySem.W.Frag} {H : Hp} {b : Addr} {n : Nat} {z : Str} (h : Okv K H b n (.str z)) : StrK z := by
  cases n with
  | zero => exact h.2 z rfl
  | succ n =>
    rcases h with h | ⟨a, xs, e, _⟩
    · exact h.2 z rfl
    · cases e
theorem Okv.short {K : PySem.W.Frag} {H : Hp} {b : Addr} {n : Nat} {z : Str} (h : Okv K H b n (.str z)) : z.cps.size ≤ 100000 := h.strK.1
theorem isS_of {v : V} (h : isS v = true) : ∃ z, v = .str z := by
  cases v with
  | str z => exact ⟨z, rfl⟩
  | _ => cases h
/-! ### names and numbers, as plain functions -/
def inL (c : Nat) : Bool := decide (97 ≤ c) && decide (c ≤ 122)
def nmV : V → Bool
  | .str z => decide (1 ≤ z.cps.size) && decide (z.cps.size ≤ 6) && z.cps.toList.all inL
  | _ => false
def numV (v : V) (lo hi : Int) : Bool := match v with
  | .int i => decide (lo ≤ i) && decide (i ≤ hi)
  | _ => false
def regs : List V := [.str "r0", .str "r1", .str "r2"]
def regV (v : V) : Bool := isS v && inV v regs
theorem lt_sign (c d : Nat) : (([c] : List Nat) < [d]) ↔ c < d := by
  constructor
  · intro h
    cases h with
    | rel h => exact h
    | cons h => cases h
  · intro h
    exact .rel h
theorem le_sign (c d : Nat) : (!decide (([c] : List Nat) < [d])) = decide (d ≤ c) := by
  rw [Bool.eq_iff_iff]
  simp [lt_sign]
theorem cps_a : ("a" : Str).cps.toList = [97] := by decide +kernel
theorem cps_z : ("z" : Str).cps.toList = [122] := by decide +kernel
theorem cps_abc : ("abcdefghijklmnopqrstuvwxyz" : Str).cps.toList = List.range' 97 26 := by decide +kernel
theorem in_abc (c : Nat) : decide (c ∈ ("abcdefghijklmnopqrstuvwxyz" : Str).cps.toList) = inL c := by
  rw [cps_abc, Bool.eq_iff_iff]
  simp [inL, List.mem_range'_1]
  omega
/-- what holds of each answer, told ahead: any extension, then the answer -/
theorem take_snoc {α β : Type} (f : α → β) {l : List α} {i : Nat} {x : α} (h : l[i]? = some x) : (l.take (i + 1)).map f = (l.take i).map f ++ [f x] := by
  rw [List.take_add_one, h, List.map_append]
  rfl

/-! ### texts of drawn signs -/
theorem joinL_ones : ∀ cs : List Nat, TL.joinL [] (cs.map fun c => [c]) = cs
  | [] => rfl
  | [_] => rfl
  | c :: d :: r => by
    show [c] ++ ([] ++ TL.joinL [] ((d :: r).map fun c => [c])) = c :: d :: r
    rw [joinL_ones (d :: r)]
    rfl
theorem join_ones (cs : List Nat) : Txt.join ("" : Str) (cs.map fun c => (⟨#[c]⟩ : Str)) = ⟨cs.toArray⟩ := by
  have e : ("" : Str) = SX.S [] := by decide +kernel
  have e2 : (cs.map fun c => (⟨#[c]⟩ : Str)) = (cs.map fun c => [c]).map SX.S := by
    rw [List.map_map]
    rfl
  rw [e, e2, SX.join_S, joinL_ones]
theorem len_ones : ∀ cs : List Nat, ((cs.map fun c => (⟨#[c]⟩ : Str)).map (·.length)).sum = cs.length
  | [] => rfl
  | c :: r => by
    rw [List.map_cons, List.map_cons, List.sum_cons, len_ones r, List.length_cons]
    show 1 + r.length = r.length + 1
    omega
theorem strK_of {cs : List Nat} (hl : cs.length ≤ 100000) (h : ∀ c ∈ cs, c < 1114112) : StrK (⟨cs.toArray⟩ : Str) := ⟨by simpa using hl, by simpa using h⟩
theorem Eqd.lists {K : PySem.W.Frag} {H : Hp} {a b : Addr} {xs : List V} {n : Nat} (h1 : SqL K H a xs) (h2 : SqL K H b xs) (hl : xs.length ≤ 100000) (hf : ∀ x ∈ xs, Eqd K H n x x) : Eqd K H (n + 1) (.ref a) (.ref b) :=
  .inr ⟨a, b, xs, xs, rfl, rfl, .inl ⟨h1, h2⟩, rfl, hl, fun i u v hu hv => by
    rw [hu] at hv
    cases hv
    exact hf u (List.mem_of_getElem? hu)⟩
theorem Eqd.tups {K : PySem.W.Frag} {H : Hp} {a b : Addr} {xs : List V} {n : Nat} (h1 : SqT K H a xs) (h2 : SqT K H b xs) (hl : xs.length ≤ 100000) (hf : ∀ x ∈ xs, Eqd K H n x x) : Eqd K H (n + 1) (.ref a) (.ref b) :=
  .inr ⟨a, b, xs, xs, rfl, rfl, .inr ⟨h1, h2⟩, rfl, hl, fun i u v hu hv => by
    rw [hu] at hv
    cases hv
    exact hf u (List.mem_of_getElem? hu)⟩
/-- a flat value is what it is in any heap -/
theorem Okv.lst0 {K : PySem.W.Frag} {H : Hp} {b a : Addr} {n : Nat} {xs : List V} (ne : a ≠ b) (h : SqL K H a xs) (hl : xs.length ≤ 100000) (hx : ∀ x ∈ xs, Okv K H b n x) : Okv K H b (n + 1) (.ref a) := .inr ⟨a, xs, rfl, ne, .inl h, hl, hx⟩
theorem Okv.tup0 {K : PySem.W.Frag} {H : Hp} {b a : Addr} {n : Nat} {xs : List V} (ne : a ≠ b) (h : SqT K H a xs) (hl : xs.length ≤ 100000) (hx : ∀ x ∈ xs, Okv K H b n x) : Okv K H b (n + 1) (.ref a) := .inr ⟨a, xs, rfl, ne, .inr h, hl, hx⟩
theorem mem1 {α : Type} {P : α → Prop} {x : α} (h : P x) : ∀ y ∈ [x], P y := fun y m => by
  rw [List.mem_singleton.mp m]
  exact h
theorem memc {α : Type} {P : α → Prop} {x : α} {l : List α} (h : P x) (t : ∀ y ∈ l, P y) : ∀ y ∈ x :: l, P y := fun y m => by
  rcases List.mem_cons.mp m with e | m
  · rw [e]
    exact h
  · exact t y m
theorem mem0 {α : Type} {P : α → Prop} : ∀ y ∈ ([] : List α), P y := fun _ m => nomatch m
theorem mema {α : Type} {P : α → Prop} {l r : List α} (h : ∀ y ∈ l, P y) (t : ∀ y ∈ r, P y) : ∀ y ∈ l ++ r, P y := fun y m => by
  rcases List.mem_append.mp m with m | m
  · exact h y m
  · exact t y m
/-- a written text -/
theorem Okv.lit {K : PySem.W.Frag} {H : Hp} {b : Addr} {n : Nat} {z : Str} (h : (decide (z.cps.size ≤ 100000) && z.cps.toList.all fun c => decide (c < 1114112)) = true) : Okv K H b n (.str z) := by
  rw [Bool.and_eq_true] at h
  refine .str ⟨of_decide_eq_true h.1, fun c m => ?_⟩
  have q := List.all_eq_true.mp h.2 c m
  exact of_decide_eq_true q
/-- such a text drawn from -/
theorem Thg.lit {K : PySem.W.Frag} {H : Hp} {b : Addr} {z : Str} (h : (decide (0 < z.cps.size) && decide (z.cps.size ≤ 100000) && z.cps.toList.all fun c => decide (c < 1114112)) = true) : Thg K H b (.str z) (fun v => ∃ c, v = .str ⟨#[c]⟩ ∧ c < 1114112) := by
  rw [Bool.and_eq_true, Bool.and_eq_true] at h
  exact .inl ⟨z, rfl, of_decide_eq_true h.1.1, of_decide_eq_true h.1.2, fun c m => ⟨c, rfl, of_decide_eq_true (List.all_eq_true.mp h.2 c m)⟩⟩
theorem Thg.lst {K : PySem.W.Frag} {H : Hp} {b a : Addr} {xs : List V} {Pt : V → Prop} (ne : a ≠ b) (h : SqL K H a xs) (h0 : 0 < xs.length) (hl : xs.length ≤ 100000) (hx : ∀ v ∈ xs, Pt v) : Thg K H b (.ref a) Pt := .inr ⟨a, xs, rfl, ne, h, h0, hl, hx⟩

/-! ### list of a text -/
theorem call_list_str1 {X : Cx} (hc : X.calm = true) : CallR X (.type "list") (fun xs H Q => ∃ z : Str, xs = [.str z] ∧ z.cps.size ≤ sizeLine ∧ ∀ p, H p = none → Q (.ref p) (upd H p (.lst (z.cps.toList.map fun c => V.str ⟨#[c]⟩)))) := by
  intro pins s σ H xs us Q I r h
  obtain ⟨z, rfl, hz, q⟩ := h
  obtain ⟨u, rfl, t, rfl⟩ := vals1 r
  refine PySem.call_list_str (I.ok.hd hc) z t (fun h' tk acc' c' hk hS' hacc => ?_) hz
  have rv : Vals (z.cps.toList.map fun c => V.str ⟨#[c]⟩) acc'.toList := vals_of_idx _ _ (by simpa using hacc.1) fun j u hj => by
    obtain ⟨c, t2, hc2, rfl⟩ := hacc.2 j u (by simpa using hj)
    exact ⟨.str ⟨#[c]⟩, by simp [hc2], ⟨t2, rfl⟩⟩
  exact ⟨.ref s.heap.objs.size, _, I.laid (t' := tk) hk (Nat.le_refl _) (show ObjOk X.prog X.w _ h' _ (.lst _) from ⟨by simpa using hz, acc'.toList, c', rv, by simpa using hS'⟩), rfl, q _ (I.hok.fresh (Nat.le_refl _))⟩

section
variable {P : Program} {w : World} {K : PySem.W.Frag} {mg : Str → Option Value} {base : Heap} {Z : Fs}
def sp_is_number (K : PySem.W.Frag) : Sp := fun vs H Q _ => ∃ (v : V) (lo hi : Int) (b : Addr) (n : Nat), vs = [v, .int lo, .int hi] ∧ Okv K H b n v ∧ ∀ H' : Hp, Same H H' → Q (.bl (numV v lo hi)) H'
theorem ok_is_number (T : Txt K w mg Z) : FnOk P w K mg base CX0 1 Z.a_is_number Z.d_is_number ["value", "least", "most"] (sp_is_number K) := by
  refine T.F_is_number.ok sc_is_number (fun vs H Q E h => ?_) (fun cdv A outer s H vs Q E hr h => ?_)
  · obtain ⟨v, lo, hi, b, n, rfl, _⟩ := h
    rfl
  · obtain ⟨v, lo, hi, b, n, rfl, ok, k⟩ := h
    refine ⟨_, (pss_cons (ps_if (PW.pt (pw_or (pt_val (pe_callB call_isi (by rfl) T.n_isinstance boot_isinstance (pa_cons (pv 0) (pa_cons (pe_bltn (v := .ty "bool") (by rfl) T.n_bool boot_bool rfl) pa_nil)))) (pw_or1 (pt_not (pt_val (pe_callB call_isi (by rfl) T.n_isinstance boot_isinstance (pa_cons (pv 0) (pa_cons (pe_bltn (v := .ty "int") (by rfl) T.n_int boot_int rfl) pa_nil)))))))) (pss_one (ps_ret pe_bl)) pss_nil)
      (pss_one (ps_ret (pe_chain op_le op_le (pv 1) (pv 0) (pv 2))))), ?_⟩
    obtain ⟨t, ty, _, kB, kI⟩ := ok.ty
    refine ⟨v, rfl, v, .ty "bool", t, _, _, rfl, .ty _, ty, kB, _, rfl, ?_⟩
    have no : (∀ i, v ≠ .int i) → Q (.bl false) H := fun hn => by
      have e : numV v lo hi = false := by
        cases v with
        | int i => exact absurd rfl (hn i)
        | _ => rfl
      rw [← e]
      exact k _ (Same.refl _)
    cases hb : isB v with
    | true =>
      refine iteT (iteT (no fun i e => ?_))
      rw [e] at hb
      cases hb
    | false =>
      refine iteF ?_
      refine ⟨v, rfl, v, .ty "int", t, _, _, rfl, .ty _, ty, kI, _, rfl, ?_⟩
      cases hi' : isI v with
      | false =>
        refine iteT (no fun i e => ?_)
        rw [e] at hi'
        cases hi'
      | true =>
        refine iteF ?_
        obtain ⟨i, rfl⟩ : ∃ i, v = .int i := by
          cases v with
          | int i => exact ⟨i, rfl⟩
          | bl _ => cases hb
          | _ => cases hi'
        refine ⟨.int lo, rfl, .int i, rfl, _, _, rfl, rfl, _, rfl, ite2 (fun h1 => ?_) (fun h1 => ?_)⟩
        · refine ⟨.int hi, rfl, _, _, rfl, rfl, ?_⟩
          have e : numV (.int i) lo hi = decide (i ≤ hi) := by simp [numV, of_decide_eq_true h1]
          show Q (.bl (decide (i ≤ hi))) H
          rw [← e]
          exact k _ (Same.refl _)
        · have e : numV (.int i) lo hi = false := by
            have q : ¬ lo ≤ i := fun q => h1 (decide_eq_true q)
            simp [numV, q]
          show Q (.bl false) H
          rw [← e]
          exact k _ (Same.refl _)
end

/-! ### names and rows, as data -/
def Nm (z : Str) : Prop := 1 ≤ z.cps.size ∧ z.cps.size ≤ 6 ∧ z.cps.toList.all inL = true
theorem Nm.strK {z : Str} (h : Nm z) : StrK z := ⟨by have := h.2.1; omega, fun c m => by
  have q := List.all_eq_true.mp h.2.2 c m
  simp only [inL, Bool.and_eq_true, decide_eq_true_eq] at q
  omega⟩
/-- a code row; ts the names it may have -/
inductive CRow (ts : List Str) : List V → Prop where
  | put {r : V} {n : Int} (hr : r ∈ regs) (h0 : 0 ≤ n) (h1 : n ≤ 65535) : CRow ts [.str "put", r, .int n]
  | name {r : V} {t : Str} (hr : r ∈ regs) (ht : t ∈ ts) : CRow ts [.str "name", r, .str t]
  | ifzero {r : V} {t : Str} (hr : r ∈ regs) (ht : t ∈ ts) : CRow ts [.str "ifzero", r, .str t]
  | add {r s : V} (hr : r ∈ regs) (hs : s ∈ regs) : CRow ts [.str "add", r, s]
  | take {r s : V} (hr : r ∈ regs) (hs : s ∈ regs) : CRow ts [.str "take", r, s]
  | load {r s : V} {d : Int} (hr : r ∈ regs) (hs : s ∈ regs) (h0 : 0 ≤ d) (h1 : d ≤ 15) : CRow ts [.str "load", r, s, .int d]
  | store {r s : V} {d : Int} (hr : r ∈ regs) (hs : s ∈ regs) (h0 : 0 ≤ d) (h1 : d ≤ 15) : CRow ts [.str "store", r, s, .int d]
  | jump {t : Str} (ht : t ∈ ts) : CRow ts [.str "jump", .str t]
  | call {t : Str} (ht : t ∈ ts) : CRow ts [.str "call", .str t]
  | callby {r : V} (hr : r ∈ regs) : CRow ts [.str "callby", r]
  | out {r : V} (hr : r ∈ regs) : CRow ts [.str "out", r]
  | back : CRow ts [.str "back"]
  | halt : CRow ts [.str "halt"]
  | room {k : Int} (h0 : 1 ≤ k) (h1 : k ≤ 120) : CRow ts [.str "room", .int k]
/-- a data row -/
inductive DRow (ts : List Str) : List V → Prop where
  | word {n : Int} (h0 : 0 ≤ n) (h1 : n ≤ 65535) : DRow ts [.str "word", .int n]
  | address {t : Str} (ht : t ∈ ts) : DRow ts [.str "address", .str t]
  | room {k : Int} (h0 : 1 ≤ k) (h1 : k ≤ 120) : DRow ts [.str "room", .int k]
theorem Stp.putnew {b p : Addr} {H H' : Hp} {o : HO} (s : Stp b H H') (h : H p = none) : Stp b H (upd H' p o) := fun a u n e => by
  rw [upd_ne (ne_of_none e h)]
  exact s a u n e
theorem cut_to {cs : List Nat} {k : Int} (h : 0 ≤ k) : cutS (⟨cs.toArray⟩ : Str) none (some k) = ⟨(cs.take k.toNat).toArray⟩ := (C8.cutS_slice _ _ _).trans (SX.slice_to h)
theorem cut_from {cs : List Nat} {k : Int} (h : 0 ≤ k) : cutS (⟨cs.toArray⟩ : Str) (some k) none = ⟨(cs.drop k.toNat).toArray⟩ := (C8.cutS_slice _ _ _).trans (SX.slice_from h)
theorem cat_S (a b : List Nat) : (⟨a.toArray⟩ : Str) ++ (⟨b.toArray⟩ : Str) = ⟨(a ++ b).toArray⟩ := SX.S_cat a b
theorem len_S (a : List Nat) : (⟨a.toArray⟩ : Str).length = a.length := SX.S_len a
theorem map_er {α β : Type} (f : α → β) : ∀ (l : List α) (i : Nat), (l.map f).eraseIdx i = (l.eraseIdx i).map f
  | [], _ => rfl
  | _ :: _, 0 => rfl
  | a :: l, i + 1 => congrArg (f a :: ·) (map_er f l i)
theorem Thg.abc {K : PySem.W.Frag} {H : Hp} {b : Addr} : Thg K H b (.str "abcdefghijklmnopqrstuvwxyz") (fun v => ∃ c, v = .str ⟨#[c]⟩ ∧ inL c = true) :=
  .inl ⟨_, rfl, by decide +kernel, by decide +kernel, fun c m => ⟨c, rfl, by rw [← in_abc]; exact decide_eq_true m⟩⟩
section
variable {P : Program} {w : World} {K : PySem.W.Frag} {mg : Str → Option Value} {base : Heap} {Z : Fs}
/-! ### _law_titles -/
def sp_law_titles (K : PySem.W.Frag) : Sp := fun vs H Q _ => ∃ (b l : Addr), vs = [.ref b, .int 3] ∧ Bag H b l ∧ ∀ (H' : Hp) (p : Addr) (zs : List Str), Stp b H H' → Bag H' b l → H p = none → p ≠ b → p ≠ l → H' p = some (.lst (zs.map V.str)) → zs.length = 3 → (∀ z ∈ zs, Nm z) → Q (.ref p) H'
theorem ok_law_titles (T : Txt K w mg Z) : FnOk P w K mg base CX0 3 Z.a_law_titles Z.d_law_titles ["_law_bag_here", "_law_many"] (sp_law_titles K) := by
  have G_law_draw : FnOk P w K mg base CX0 1 Z.a_law_draw Z.d_law_draw ["_law_bag_here", "_law_sides"] sp_law_draw := ok_law_draw T
  have G_law_of : FnOk P w K mg base CX0 2 Z.a_law_of Z.d_law_of ["_law_bag_here", "_law_things"] (sp_law_of K) := ok_law_of T
  refine T.F_law_titles.ok sc_law_titles (fun vs H Q E h => ?_) (fun cdv A outer s H vs Q E hr h => ?_)
  · obtain ⟨b, l, rfl, _⟩ := h
    rfl
  · obtain ⟨b, l, rfl, B, k⟩ := h
    refine ⟨_, (pss_cons (ps_par (i := 2) (j := 3) (by rfl) sc_law_titles.nd rfl rfl (by decide) rfl rfl (pa_cons (pe_callTy (call_list_str1 rfl) (by rfl) T.n_list boot_list (pa_cons pe_str pa_nil)) (pa_cons (pe_lst pa_nil) pa_nil)) (by rfl))
      (pss_cons (ps_set (i := 4) sc_law_titles.nd rfl (Or.inl rfl) (pe_join pe_str (pe_lc (own := [("_law_k", 5)]) (g := gName 5) (tt := tYes) rfl sc_law_titles.nd (pi_range1 (by rfl) T.n_range (pa_cons (pe_call G_law_draw (hr.mono (by omega)) (by rfl) T.m_law_draw T.F_law_draw.kp T.b_law_draw .nil pass0 (pa_cons (pv 0) (pa_cons pe_int pa_nil))) pa_nil)) (blkOk_by (N := N_law_titles) (sc := defScope s_law_titles) (by decide +kernel)) (fun _ _ _ _ _ => pg_name (i := 5) sc_law_titles.nd rfl (Or.inl rfl)) (fun _ _ _ _ _ => pts_nil) (fun _ _ _ _ _ => (pe_call G_law_of (hr.mono (by omega)) (by rfl) T.m_law_of T.F_law_of.kp T.b_law_of .nil pass0 (pa_cons (pv 0) (pa_cons pe_str pa_nil)))))))
      (pss_cons (ps_set (i := 6) sc_law_titles.nd rfl (Or.inl rfl) (pe_call G_law_draw (hr.mono (by omega)) (by rfl) T.m_law_draw T.F_law_draw.kp T.b_law_draw .nil pass0 (pa_cons (pv 0) (pa_cons (pe_op op_add (pe_callB call_len (by rfl) T.n_len boot_len (pa_cons (pv 4) pa_nil)) pe_int) pa_nil))))
      (pss_cons (ps_for PassesOwn.never rfl (pi_range1 (by rfl) T.n_range (pa_cons (pv 1) pa_nil)) (pg_name (i := 5) sc_law_titles.nd rfl (Or.inl rfl)) (pss_one (ps_expr (pe_bm PySem.F.plainAttrs_list PySem.F.slot_list_append PySem.F.type_list_append mt_append (pv 3) (pa_cons (pe_op op_add_str (pe_op op_add_str (pe_slice sl_str (pv 4) po_none (po_some (pv 6))) (pe_bm PySem.F.plainAttrs_list PySem.F.slot_list_pop PySem.F.type_list_pop mt_popAt (pv 2) (pa_cons (pe_call G_law_draw (hr.mono (by omega)) (by rfl) T.m_law_draw T.F_law_draw.kp T.b_law_draw .nil pass0 (pa_cons (pv 0) (pa_cons (pe_callB call_len (by rfl) T.n_len boot_len (pa_cons (pv 2) pa_nil)) pa_nil))) pa_nil))) (pe_slice sl_str (pv 4) (po_some (pv 6)) po_none)) pa_nil)))))
      (pss_one (ps_ret (pv 3))))))), ?_⟩
    refine ⟨_, rfl, (by decide +kernel), fun p1 h1 => ⟨Nat.zero_le _, fun p2 h2 => ⟨_, _, rfl, ?_⟩⟩⟩
    have n1 := B.ne h1
    have l1 := B.nel h1
    have s1 : Same H (upd H p1 (.lst (("abcdefghijklmnopqrstuvwxyz" : Str).cps.toList.map fun c => V.str ⟨#[c]⟩))) := Same.new h1
    have e1 : (upd H p1 (.lst (("abcdefghijklmnopqrstuvwxyz" : Str).cps.toList.map fun c => V.str ⟨#[c]⟩))) p1 = some (.lst (("abcdefghijklmnopqrstuvwxyz" : Str).cps.toList.map fun c => V.str ⟨#[c]⟩)) := upd_same
    generalize upd H p1 (.lst (("abcdefghijklmnopqrstuvwxyz" : Str).cps.toList.map fun c => V.str ⟨#[c]⟩)) = H1 at s1 e1 h2 ⊢
    have B1 := B.same s1
    have n2 := B1.ne h2
    have l2 := B1.nel h2
    have n12 : p1 ≠ p2 := ne_of_none e1 h2
    have z2 : H p2 = none := s1.free h2
    have s2 : Same H1 (upd H1 p2 (.lst [])) := Same.new h2
    have e2 : (upd H1 p2 (.lst [])) p2 = some (.lst []) := upd_same
    generalize upd H1 p2 (.lst []) = H2 at s2 e2 ⊢
    replace e1 := s2 _ _ e1
    have B2 := B1.same s2
    have s02 : Stp b H H2 := Same.stp (s1.trans s2)
    clear s1 s2 B1 h2
    -- stem
    refine ⟨⟨_, rfl⟩, .ref b, rfl, b, l, 6, rfl, B2, by decide, by decide, fun H3 d s3 B3 g0 g1 => ⟨d, rfl, by omega, by omega, fun D hD => ?_⟩⟩
    have nD := B3.ne hD
    have lD := B3.nel hD
    refine lc_it walk_range (fun i H' => Bag H' b l ∧ Stp b H3 H' ∧ ∃ cs : List Nat, H' D = some (.lst ((cs.map fun c => (⟨#[c]⟩ : Str)).map V.str)) ∧ cs.length = i ∧ ∀ c ∈ cs, inL c = true) ⟨B3.new hD, Stp.new hD, [], upd_same, rfl, mem0⟩ (fun _ _ _ _ => True.intro) ?_ ?_
    · rintro j x H4 H5 hj ⟨B4, s4, cs, e4, lc, hc⟩ ⟨rfl, rfl⟩
      refine ⟨rfl, .ref b, rfl, b, l, _, _, rfl, B4, Thg.abc, fun H6 v s6 B6 hv => ?_⟩
      obtain ⟨c, rfl, hc4⟩ := hv
      refine ⟨_, s6 _ _ nD e4, ?_, B6.put nD lD, (s4.trans s6).putnew hD, cs ++ [c], ?_, ?_, mema hc (mem1 hc4)⟩
      · rw [List.length_map, List.length_map, lc]
        exact Nat.lt_of_lt_of_le (show j < 6 by omega) (by decide)
      · rw [upd_same]
        simp
      · simp [lc]
    rintro H4 ⟨B4, s4, cs, e4, lc, hc⟩
    refine ⟨_, D, cs.map fun c => (⟨#[c]⟩ : Str), rfl, rfl, .inl (SqL.of e4), ?_, ?_⟩
    · rw [len_ones, List.length_map, lc]
      show d.toNat + d.toNat * 0 ≤ 16777216
      omega
    rw [join_ones]
    have lc' : cs.length ≤ 5 := by omega
    replace s4 := s3.trans s4
    replace s02 := s02.trans s4
    replace e1 := s4 _ _ n1 e1
    replace e2 := s4 _ _ n2 e2
    clear e4 lc nD lD hD B3 s3 B2 s4 g0 g1
    -- spot
    refine ⟨.ref b, rfl, _, rfl, _, cs.length, rfl, ⟨by rw [len_S]; exact Nat.le_trans lc' (by decide), (len_S cs).symm⟩, _, _, rfl, rfl, b, l, _, rfl, B4, by omega, by omega, fun H5 sp s5 B5 q0 q1 => ?_⟩
    replace s02 := s02.trans s5
    replace e1 := s5 _ _ n1 e1
    replace e2 := s5 _ _ n2 e2
    clear s5 B4
    refine ⟨.int 3, rfl, 3, rfl, by decide, by decide, for_range (lo := 0) (n := 3) (fun i σ H' => ∃ (y5 : Option V) (ls : List Nat) (zs : List Str), σ = [some (.ref b), some (.int 3), some (.ref p1), some (.ref p2), some (.str ⟨cs.toArray⟩), y5, some (.int sp)] ∧ Bag H' b l ∧ Stp b H H' ∧
      H' p1 = some (.lst (ls.map fun c => V.str ⟨#[c]⟩)) ∧ ls.length + i = 26 ∧ (∀ c ∈ ls, inL c = true) ∧ H' p2 = some (.lst (zs.map V.str)) ∧ zs.length = i ∧ ∀ z ∈ zs, Nm z)
      ⟨_, _, [], rfl, B5, s02, e1, by decide +kernel, (fun c m => by rw [← in_abc]; exact decide_eq_true m), e2, rfl, mem0⟩ ?_ ?_⟩
    · rintro i σ H6 hi ⟨y5, ls, zs, rfl, B6, s6, f1, ll, hl, f2, lz, hz⟩
      refine ⟨.ref p2, rfl, .inl ⟨rfl, _, SqL.of f2⟩, _, rfl, .int sp, rfl, sp, rfl, _, rfl, (by rw [len_S]; exact Nat.le_trans lc' (by decide)), ?_⟩
      rw [cut_to q0]
      refine ⟨.ref p1, rfl, .inl ⟨rfl, _, SqL.of f1⟩, .ref b, rfl, .ref p1, rfl, .ref p1, ls.length, rfl, .inl ⟨_, SqL.of f1, by rw [List.length_map]⟩, b, l, _, rfl, B6, by omega, by omega, fun H7 d s7 B7 d0 d1 => ?_⟩
      have hd : d.toNat < ls.length := by omega
      refine ⟨p1, _, d, d.toNat, .str ⟨#[ls[d.toNat]]⟩, rfl, rfl, s7 _ _ n1 f1, by omega, by omega, (by rw [List.length_map]; exact seqIndex_of d0 (by omega)), (by rw [List.getElem?_map, List.getElem?_eq_getElem hd]; rfl), ?_⟩
      refine ⟨_, _, rfl, rfl, (by rw [len_S]; show _ + 1 ≤ sizeLine; exact Nat.le_trans (show (cs.take sp.toNat).length + 1 ≤ 100 by rw [List.length_take]; omega) (by decide)), ?_⟩
      rw [show (⟨#[ls[d.toNat]]⟩ : Str) = ⟨[ls[d.toNat]].toArray⟩ from rfl, cat_S]
      refine ⟨_, rfl, .int sp, rfl, sp, rfl, _, rfl, (by rw [len_S]; exact Nat.le_trans lc' (by decide)), ?_⟩
      rw [cut_from q0]
      refine ⟨_, _, rfl, rfl, (by rw [len_S, len_S]; exact Nat.le_trans (show (cs.take sp.toNat ++ [ls[d.toNat]]).length + (cs.drop sp.toNat).length ≤ 100 by rw [List.length_append, List.length_take, List.length_drop, List.length_singleton]; omega) (by decide)), ?_⟩
      rw [cat_S]
      have g2 : (upd H7 p1 (.lst ((ls.map fun c => V.str ⟨#[c]⟩).eraseIdx d.toNat))) p2 = some (.lst (zs.map V.str)) := by
        rw [upd_ne n12.symm]
        exact s7 _ _ n2 f2
      refine ⟨p2, _, _, rfl, rfl, g2, (by rw [List.length_map, lz]; exact Nat.lt_of_lt_of_le (show i < 3 from hi) (by decide)), ?_⟩
      refine ⟨_, ls.eraseIdx d.toNat, zs ++ [_], rfl, (B7.put n1 l1).put n2 l2, ((s6.trans s7).putnew h1).putnew z2, ?_, ?_, fun c m => hl c (List.mem_of_mem_eraseIdx m), by rw [upd_same, List.map_append]; rfl, by rw [List.length_append, lz]; rfl, mema hz (mem1 ?_)⟩
      · rw [upd_ne n12, upd_same]
        rw [map_er]
      · rw [List.length_eraseIdx_of_lt hd]
        omega
      · refine ⟨?_, ?_, ?_⟩
        · simp
          omega
        · simp
          omega
        · rw [List.all_eq_true]
          intro c m
          have m : c ∈ (cs.take sp.toNat ++ [ls[d.toNat]]) ++ cs.drop sp.toNat := by simpa using m
          rcases List.mem_append.mp m with m | m
          · rcases List.mem_append.mp m with m | m
            · exact hc c (List.mem_of_mem_take m)
            · rw [List.mem_singleton.mp m]
              exact hl _ (List.getElem_mem hd)
          · exact hc c (List.mem_of_mem_drop m)
    · rintro σ H6 ⟨y5, ls, zs, rfl, B6, s6, f1, ll, hl, f2, lz, hz⟩
      exact ⟨.ref p2, rfl, k _ _ zs s6 B6 z2 n2 l2 f2 lz hz⟩
/-! ### _law_number, _law_r -/
def sp_law_number : Sp := fun vs H Q _ => ∃ (b l : Addr), vs = [.ref b] ∧ Bag H b l ∧ ∀ (H' : Hp) (i : Int), Stp b H H' → Bag H' b l → 0 ≤ i → i ≤ 65535 → Q (.int i) H'
theorem ok_law_number (T : Txt K w mg Z) : FnOk P w K mg base CX0 3 Z.a_law_number Z.d_law_number ["_law_bag_here"] sp_law_number := by
  have G_law_draw : FnOk P w K mg base CX0 1 Z.a_law_draw Z.d_law_draw ["_law_bag_here", "_law_sides"] sp_law_draw := ok_law_draw T
  have G_law_of : FnOk P w K mg base CX0 2 Z.a_law_of Z.d_law_of ["_law_bag_here", "_law_things"] (sp_law_of K) := ok_law_of T
  refine T.F_law_number.ok sc_law_number (fun vs H Q E h => ?_) (fun cdv A outer s H vs Q E hr h => ?_)
  · obtain ⟨b, l, rfl, _⟩ := h
    rfl
  · obtain ⟨b, l, rfl, B, k⟩ := h
    refine ⟨_, (pss_one (ps_ret (pe_call G_law_of (hr.mono (by omega)) (by rfl) T.m_law_of T.F_law_of.kp T.b_law_of .nil pass0 (pa_cons (pv 0) (pa_cons (pe_lst (pa_cons pe_int (pa_cons pe_int (pa_cons pe_int (pa_cons pe_int (pa_cons pe_int (pa_cons pe_int (pa_cons pe_int (pa_cons (pe_call G_law_draw (hr.mono (by omega)) (by rfl) T.m_law_draw T.F_law_draw.kp T.b_law_draw .nil pass0 (pa_cons (pv 0) (pa_cons pe_int pa_nil))) (pa_cons (pe_call G_law_draw (hr.mono (by omega)) (by rfl) T.m_law_draw T.F_law_draw.kp T.b_law_draw .nil pass0 (pa_cons (pv 0) (pa_cons pe_int pa_nil))) (pa_cons (pe_call G_law_draw (hr.mono (by omega)) (by rfl) T.m_law_draw T.F_law_draw.kp T.b_law_draw .nil pass0 (pa_cons (pv 0) (pa_cons pe_int pa_nil))) pa_nil))))))))))) pa_nil))))), ?_⟩
    refine ⟨.ref b, rfl, .ref b, rfl, b, l, 300, rfl, B, by decide, by decide, fun H1 d1 s1 B1 _ _ => ?_⟩
    refine ⟨.ref b, rfl, b, l, 65536, rfl, B1, by decide, by decide, fun H2 d2 s2 B2 _ _ => ?_⟩
    refine ⟨.ref b, rfl, b, l, 65536, rfl, B2, by decide, by decide, fun H3 d3 s3 B3 _ _ => ?_⟩
    refine ⟨(by show 10 ≤ sizeLine; decide), fun p hp => ?_⟩
    refine ⟨b, l, .ref p, fun v => ∃ i, v = .int i ∧ 0 ≤ i ∧ i ≤ 65535, rfl, B3.new hp, .lst (B3.ne hp) (SqL.of upd_same) (by show 0 < 10; decide) (by show 10 ≤ 100000; decide) ?_, fun H4 v s4 B4 hv => ?_⟩
    · exact memc ⟨_, rfl, by decide, by decide⟩ (memc ⟨_, rfl, by decide, by decide⟩ (memc ⟨_, rfl, by decide, by decide⟩ (memc ⟨_, rfl, by decide, by decide⟩ (memc ⟨_, rfl, by decide, by decide⟩ (memc ⟨_, rfl, by decide, by decide⟩ (memc ⟨_, rfl, by decide, by decide⟩ (memc ⟨_, rfl, by omega, by omega⟩ (memc ⟨_, rfl, by omega, by omega⟩ (mem1 ⟨_, rfl, by omega, by omega⟩)))))))))
    · obtain ⟨i, rfl, i0, i1⟩ := hv
      exact k _ _ ((((s1.trans s2).trans s3).trans (Stp.new hp)).trans s4) B4 i0 i1
def sp_law_r : Sp := fun vs H Q _ => ∃ (b l : Addr), vs = [.ref b] ∧ Bag H b l ∧ ∀ (H' : Hp) (v : V), Stp b H H' → Bag H' b l → v ∈ regs → Q v H'
theorem ok_law_r (T : Txt K w mg Z) : FnOk P w K mg base CX0 3 Z.a_law_r Z.d_law_r ["_law_bag_here"] sp_law_r := by
  have G_law_of : FnOk P w K mg base CX0 2 Z.a_law_of Z.d_law_of ["_law_bag_here", "_law_things"] (sp_law_of K) := ok_law_of T
  refine T.F_law_r.ok sc_law_r (fun vs H Q E h => ?_) (fun cdv A outer s H vs Q E hr h => ?_)
  · obtain ⟨b, l, rfl, _⟩ := h
    rfl
  · obtain ⟨b, l, rfl, B, k⟩ := h
    refine ⟨_, (pss_one (ps_ret (pe_call G_law_of (hr.mono (by omega)) (by rfl) T.m_law_of T.F_law_of.kp T.b_law_of .nil pass0 (pa_cons (pv 0) (pa_cons (pe_lst (pa_cons pe_str (pa_cons pe_str (pa_cons pe_str pa_nil)))) pa_nil))))), ?_⟩
    refine ⟨.ref b, rfl, (by show 3 ≤ sizeLine; decide), fun p hp => ?_⟩
    exact ⟨b, l, .ref p, fun v => v ∈ regs, rfl, B.new hp, .lst (B.ne hp) (SqL.of upd_same) (by show 0 < 3; decide) (by show 3 ≤ 100000; decide) (fun v m => m), fun H4 v s4 B4 hv => k _ _ ((Stp.new hp).trans s4) B4 hv⟩
end

section
variable {P : Program} {w : World} {K : PySem.W.Frag} {mg : Str → Option Value} {base : Heap} {Z : Fs}
/-! ### drawn rows -/
/-- the names at hand: a list of texts, not the bag -/
def Tls (H : Hp) (b t : Addr) (ts : List Str) : Prop := H t = some (.lst (ts.map V.str)) ∧ t ≠ b ∧ 0 < ts.length ∧ ts.length ≤ 1000
theorem Tls.stp {H H' : Hp} {b t : Addr} {ts : List Str} (s : Stp b H H') (h : Tls H b t ts) : Tls H' b t ts := ⟨s _ _ h.2.1 h.1, h.2⟩
theorem Tls.thg {H : Hp} {b t : Addr} {ts : List Str} (h : Tls H b t ts) : Thg K H b (.ref t) (fun v => ∃ z, v = .str z ∧ z ∈ ts) :=
  .lst h.2.1 (SqL.of h.1) (by rw [List.length_map]; exact h.2.2.1) (by rw [List.length_map]; exact Nat.le_trans h.2.2.2 (by decide)) fun v m => by
    obtain ⟨z, hz, rfl⟩ := List.mem_map.mp m
    exact ⟨z, rfl, hz⟩
def sp_law_code_row : Sp := fun vs H Q _ => ∃ (b l t : Addr) (ts : List Str), vs = [.ref b, .ref t] ∧ Bag H b l ∧ Tls H b t ts ∧ ∀ (H' : Hp) (a : Addr) (xs : List V), Stp b H H' → Bag H' b l → H' a = some (.tup xs) → a ≠ b → CRow ts xs → Q (.ref a) H'
theorem ok_law_code_row (T : Txt K w mg Z) : FnOk P w K mg base CX0 4 Z.a_law_code_row Z.d_law_code_row ["_law_bag_here", "_law_titles_here"] sp_law_code_row := by
  have G_law_draw : FnOk P w K mg base CX0 1 Z.a_law_draw Z.d_law_draw ["_law_bag_here", "_law_sides"] sp_law_draw := ok_law_draw T
  have G_law_of : FnOk P w K mg base CX0 2 Z.a_law_of Z.d_law_of ["_law_bag_here", "_law_things"] (sp_law_of K) := ok_law_of T
  have G_law_number : FnOk P w K mg base CX0 3 Z.a_law_number Z.d_law_number ["_law_bag_here"] sp_law_number := ok_law_number T
  have G_law_r : FnOk P w K mg base CX0 3 Z.a_law_r Z.d_law_r ["_law_bag_here"] sp_law_r := ok_law_r T
  refine T.F_law_code_row.ok sc_law_code_row (fun vs H Q E h => ?_) (fun cdv A outer s H vs Q E hr h => ?_)
  · obtain ⟨b, l, t, ts, rfl, _⟩ := h
    rfl
  · obtain ⟨b, l, t, ts, rfl, B, TT, k⟩ := h
    refine ⟨_, (pss_cons (ps_set (i := 2) sc_law_code_row.nd rfl (Or.inl rfl) (pe_call G_law_draw (hr.mono (by omega)) (by rfl) T.m_law_draw T.F_law_draw.kp T.b_law_draw .nil pass0 (pa_cons (pv 0) (pa_cons pe_int pa_nil))))
      (pss_cons (ps_if (pt_cmpR op_lt (pv 2) pe_int (nomark _)) (pss_one (ps_ret (pe_tup (pa_cons pe_str (pa_cons (pe_call G_law_r (hr.mono (by omega)) (by rfl) T.m_law_r T.F_law_r.kp T.b_law_r .nil pass0 (pa_cons (pv 0) pa_nil)) (pa_cons (pe_call G_law_number (hr.mono (by omega)) (by rfl) T.m_law_number T.F_law_number.kp T.b_law_number .nil pass0 (pa_cons (pv 0) pa_nil)) pa_nil)))))) pss_nil)
      (pss_cons (ps_if (pt_cmpR op_lt (pv 2) pe_int (nomark _)) (pss_one (ps_ret (pe_tup (pa_cons (pe_call G_law_of (hr.mono (by omega)) (by rfl) T.m_law_of T.F_law_of.kp T.b_law_of .nil pass0 (pa_cons (pv 0) (pa_cons (pe_lst (pa_cons pe_str (pa_cons pe_str pa_nil))) pa_nil))) (pa_cons (pe_call G_law_r (hr.mono (by omega)) (by rfl) T.m_law_r T.F_law_r.kp T.b_law_r .nil pass0 (pa_cons (pv 0) pa_nil)) (pa_cons (pe_call G_law_of (hr.mono (by omega)) (by rfl) T.m_law_of T.F_law_of.kp T.b_law_of .nil pass0 (pa_cons (pv 0) (pa_cons (pv 1) pa_nil))) pa_nil)))))) pss_nil)
      (pss_cons (ps_if (pt_cmpR op_lt (pv 2) pe_int (nomark _)) (pss_one (ps_ret (pe_tup (pa_cons (pe_call G_law_of (hr.mono (by omega)) (by rfl) T.m_law_of T.F_law_of.kp T.b_law_of .nil pass0 (pa_cons (pv 0) (pa_cons (pe_lst (pa_cons pe_str (pa_cons pe_str pa_nil))) pa_nil))) (pa_cons (pe_call G_law_r (hr.mono (by omega)) (by rfl) T.m_law_r T.F_law_r.kp T.b_law_r .nil pass0 (pa_cons (pv 0) pa_nil)) (pa_cons (pe_call G_law_r (hr.mono (by omega)) (by rfl) T.m_law_r T.F_law_r.kp T.b_law_r .nil pass0 (pa_cons (pv 0) pa_nil)) pa_nil)))))) pss_nil)
      (pss_cons (ps_if (pt_cmpR op_lt (pv 2) pe_int (nomark _)) (pss_one (ps_ret (pe_tup (pa_cons (pe_call G_law_of (hr.mono (by omega)) (by rfl) T.m_law_of T.F_law_of.kp T.b_law_of .nil pass0 (pa_cons (pv 0) (pa_cons (pe_lst (pa_cons pe_str (pa_cons pe_str pa_nil))) pa_nil))) (pa_cons (pe_call G_law_r (hr.mono (by omega)) (by rfl) T.m_law_r T.F_law_r.kp T.b_law_r .nil pass0 (pa_cons (pv 0) pa_nil)) (pa_cons (pe_call G_law_r (hr.mono (by omega)) (by rfl) T.m_law_r T.F_law_r.kp T.b_law_r .nil pass0 (pa_cons (pv 0) pa_nil)) (pa_cons (pe_call G_law_of (hr.mono (by omega)) (by rfl) T.m_law_of T.F_law_of.kp T.b_law_of .nil pass0 (pa_cons (pv 0) (pa_cons (pe_lst (pa_cons pe_int (pa_cons pe_int (pa_cons (pe_call G_law_draw (hr.mono (by omega)) (by rfl) T.m_law_draw T.F_law_draw.kp T.b_law_draw .nil pass0 (pa_cons (pv 0) (pa_cons pe_int pa_nil))) pa_nil)))) pa_nil))) pa_nil))))))) pss_nil)
      (pss_cons (ps_if (pt_cmpR op_lt (pv 2) pe_int (nomark _)) (pss_one (ps_ret (pe_tup (pa_cons (pe_call G_law_of (hr.mono (by omega)) (by rfl) T.m_law_of T.F_law_of.kp T.b_law_of .nil pass0 (pa_cons (pv 0) (pa_cons (pe_lst (pa_cons pe_str (pa_cons pe_str pa_nil))) pa_nil))) (pa_cons (pe_call G_law_of (hr.mono (by omega)) (by rfl) T.m_law_of T.F_law_of.kp T.b_law_of .nil pass0 (pa_cons (pv 0) (pa_cons (pv 1) pa_nil))) pa_nil))))) pss_nil)
      (pss_cons (ps_if (pt_cmpR op_lt (pv 2) pe_int (nomark _)) (pss_one (ps_ret (pe_tup (pa_cons (pe_call G_law_of (hr.mono (by omega)) (by rfl) T.m_law_of T.F_law_of.kp T.b_law_of .nil pass0 (pa_cons (pv 0) (pa_cons (pe_lst (pa_cons pe_str (pa_cons pe_str pa_nil))) pa_nil))) (pa_cons (pe_call G_law_r (hr.mono (by omega)) (by rfl) T.m_law_r T.F_law_r.kp T.b_law_r .nil pass0 (pa_cons (pv 0) pa_nil)) pa_nil))))) pss_nil)
      (pss_one (ps_ret (pe_call G_law_of (hr.mono (by omega)) (by rfl) T.m_law_of T.F_law_of.kp T.b_law_of .nil pass0 (pa_cons (pv 0) (pa_cons (pe_lst (pa_cons (pe_tup (pa_cons pe_str pa_nil)) (pa_cons (pe_tup (pa_cons pe_str pa_nil)) (pa_cons (pe_tup (pa_cons pe_str (pa_cons (pe_call G_law_of (hr.mono (by omega)) (by rfl) T.m_law_of T.F_law_of.kp T.b_law_of .nil pass0 (pa_cons (pv 0) (pa_cons (pe_lst (pa_cons pe_int (pa_cons pe_int (pa_cons pe_int (pa_cons pe_int pa_nil))))) pa_nil))) pa_nil))) pa_nil)))) pa_nil)))))))))))), ?_⟩
    refine ⟨.ref b, rfl, b, l, 14, rfl, B, by decide, by decide, fun H0 d s0 B0 _ _ => ?_⟩
    have T0 := TT.stp s0
    refine ⟨_, rfl, _, _, rfl, rfl, _, rfl, ite2 (fun _ => ?_) (fun _ => ?_)⟩
    · -- put
      refine ⟨.ref b, rfl, b, l, rfl, B0, fun H1 r s1 B1 hr1 => ⟨.ref b, rfl, b, l, rfl, B1, fun H2 n s2 B2 n0 n1 => ⟨(by show 3 ≤ sizeLine; decide), fun p hp => ?_⟩⟩⟩
      exact k _ p _ (((s0.trans s1).trans s2).trans (Stp.new hp)) (B2.new hp) upd_same (B2.ne hp) (.put hr1 n0 n1)
    refine ⟨_, rfl, _, _, rfl, rfl, _, rfl, ite2 (fun _ => ?_) (fun _ => ?_)⟩
    · -- name, ifzero
      refine ⟨.ref b, rfl, (by show 2 ≤ sizeLine; decide), fun q hq => ⟨b, l, .ref q, fun v => v ∈ [V.str "name", V.str "ifzero"], rfl, B0.new hq, .lst (B0.ne hq) (SqL.of upd_same) (by show 0 < 2; decide) (by show 2 ≤ 100000; decide) (fun v m => m), fun H1 v s1 B1 hv => ?_⟩⟩
      replace s1 := (Stp.new hq).trans s1
      refine ⟨.ref b, rfl, b, l, rfl, B1, fun H2 r s2 B2 hr2 => ?_⟩
      have T2 := (T0.stp s1).stp s2
      refine ⟨.ref b, rfl, .ref t, rfl, b, l, .ref t, _, rfl, B2, T2.thg, fun H3 u s3 B3 hu => ?_⟩
      obtain ⟨z, rfl, hz⟩ := hu
      refine ⟨(by show 3 ≤ sizeLine; decide), fun p hp => ?_⟩
      have ss := (((s0.trans s1).trans s2).trans s3).trans (Stp.new (o := .tup [v, r, .str z]) hp)
      rcases List.mem_cons.mp hv with rfl | hv
      · exact k _ p _ ss (B3.new hp) upd_same (B3.ne hp) (.name hr2 hz)
      · rw [List.mem_singleton.mp hv] at ss ⊢
        exact k _ p _ ss (B3.new hp) upd_same (B3.ne hp) (.ifzero hr2 hz)
    refine ⟨_, rfl, _, _, rfl, rfl, _, rfl, ite2 (fun _ => ?_) (fun _ => ?_)⟩
    · -- add, take
      refine ⟨.ref b, rfl, (by show 2 ≤ sizeLine; decide), fun q hq => ⟨b, l, .ref q, fun v => v ∈ [V.str "add", V.str "take"], rfl, B0.new hq, .lst (B0.ne hq) (SqL.of upd_same) (by show 0 < 2; decide) (by show 2 ≤ 100000; decide) (fun v m => m), fun H1 v s1 B1 hv => ?_⟩⟩
      replace s1 := (Stp.new hq).trans s1
      refine ⟨.ref b, rfl, b, l, rfl, B1, fun H2 r s2 B2 hr2 => ⟨.ref b, rfl, b, l, rfl, B2, fun H3 r3 s3 B3 hr3 => ⟨(by show 3 ≤ sizeLine; decide), fun p hp => ?_⟩⟩⟩
      have ss := (((s0.trans s1).trans s2).trans s3).trans (Stp.new (o := .tup [v, r, r3]) hp)
      rcases List.mem_cons.mp hv with rfl | hv
      · exact k _ p _ ss (B3.new hp) upd_same (B3.ne hp) (.add hr2 hr3)
      · rw [List.mem_singleton.mp hv] at ss ⊢
        exact k _ p _ ss (B3.new hp) upd_same (B3.ne hp) (.take hr2 hr3)
    refine ⟨_, rfl, _, _, rfl, rfl, _, rfl, ite2 (fun _ => ?_) (fun _ => ?_)⟩
    · -- load, store
      refine ⟨.ref b, rfl, (by show 2 ≤ sizeLine; decide), fun q hq => ⟨b, l, .ref q, fun v => v ∈ [V.str "load", V.str "store"], rfl, B0.new hq, .lst (B0.ne hq) (SqL.of upd_same) (by show 0 < 2; decide) (by show 2 ≤ 100000; decide) (fun v m => m), fun H1 v s1 B1 hv => ?_⟩⟩
      replace s1 := (Stp.new hq).trans s1
      refine ⟨.ref b, rfl, b, l, rfl, B1, fun H2 r s2 B2 hr2 => ⟨.ref b, rfl, b, l, rfl, B2, fun H3 r3 s3 B3 hr3 => ?_⟩⟩
      refine ⟨.ref b, rfl, .ref b, rfl, b, l, 16, rfl, B3, by decide, by decide, fun H4 d4 s4 B4 g0 g1 => ⟨(by show 3 ≤ sizeLine; decide), fun q4 hq4 => ?_⟩⟩
      refine ⟨b, l, .ref q4, fun v => ∃ i, v = .int i ∧ 0 ≤ i ∧ i ≤ 15, rfl, B4.new hq4, .lst (B4.ne hq4) (SqL.of upd_same) (by show 0 < 3; decide) (by show 3 ≤ 100000; decide) (memc ⟨_, rfl, by decide, by decide⟩ (memc ⟨_, rfl, by decide, by decide⟩ (mem1 ⟨_, rfl, by omega, by omega⟩))), fun H5 u s5 B5 hu => ?_⟩
      obtain ⟨i, rfl, i0, i1⟩ := hu
      replace s5 := (s4.trans (Stp.new hq4)).trans s5
      refine ⟨(by show 4 ≤ sizeLine; decide), fun p hp => ?_⟩
      have ss := ((((s0.trans s1).trans s2).trans s3).trans s5).trans (Stp.new (o := .tup [v, r, r3, .int i]) hp)
      rcases List.mem_cons.mp hv with rfl | hv
      · exact k _ p _ ss (B5.new hp) upd_same (B5.ne hp) (.load hr2 hr3 i0 i1)
      · rw [List.mem_singleton.mp hv] at ss ⊢
        exact k _ p _ ss (B5.new hp) upd_same (B5.ne hp) (.store hr2 hr3 i0 i1)
    refine ⟨_, rfl, _, _, rfl, rfl, _, rfl, ite2 (fun _ => ?_) (fun _ => ?_)⟩
    · -- jump, call
      refine ⟨.ref b, rfl, (by show 2 ≤ sizeLine; decide), fun q hq => ⟨b, l, .ref q, fun v => v ∈ [V.str "jump", V.str "call"], rfl, B0.new hq, .lst (B0.ne hq) (SqL.of upd_same) (by show 0 < 2; decide) (by show 2 ≤ 100000; decide) (fun v m => m), fun H1 v s1 B1 hv => ?_⟩⟩
      replace s1 := (Stp.new hq).trans s1
      have T1 := T0.stp s1
      refine ⟨.ref b, rfl, .ref t, rfl, b, l, .ref t, _, rfl, B1, T1.thg, fun H3 u s3 B3 hu => ?_⟩
      obtain ⟨z, rfl, hz⟩ := hu
      refine ⟨(by show 2 ≤ sizeLine; decide), fun p hp => ?_⟩
      have ss := ((s0.trans s1).trans s3).trans (Stp.new (o := .tup [v, .str z]) hp)
      rcases List.mem_cons.mp hv with rfl | hv
      · exact k _ p _ ss (B3.new hp) upd_same (B3.ne hp) (.jump hz)
      · rw [List.mem_singleton.mp hv] at ss ⊢
        exact k _ p _ ss (B3.new hp) upd_same (B3.ne hp) (.call hz)
    refine ⟨_, rfl, _, _, rfl, rfl, _, rfl, ite2 (fun _ => ?_) (fun _ => ?_)⟩
    · -- callby, out
      refine ⟨.ref b, rfl, (by show 2 ≤ sizeLine; decide), fun q hq => ⟨b, l, .ref q, fun v => v ∈ [V.str "callby", V.str "out"], rfl, B0.new hq, .lst (B0.ne hq) (SqL.of upd_same) (by show 0 < 2; decide) (by show 2 ≤ 100000; decide) (fun v m => m), fun H1 v s1 B1 hv => ?_⟩⟩
      replace s1 := (Stp.new hq).trans s1
      refine ⟨.ref b, rfl, b, l, rfl, B1, fun H2 r s2 B2 hr2 => ⟨(by show 2 ≤ sizeLine; decide), fun p hp => ?_⟩⟩
      have ss := ((s0.trans s1).trans s2).trans (Stp.new (o := .tup [v, r]) hp)
      rcases List.mem_cons.mp hv with rfl | hv
      · exact k _ p _ ss (B2.new hp) upd_same (B2.ne hp) (.callby hr2)
      · rw [List.mem_singleton.mp hv] at ss ⊢
        exact k _ p _ ss (B2.new hp) upd_same (B2.ne hp) (.out hr2)
    · -- back, halt, room
      refine ⟨.ref b, rfl, (by show 1 ≤ sizeLine; decide), fun p1 h1 => ?_⟩
      have n1 := B0.ne h1
      have s1 : Same H0 (upd H0 p1 (.tup [V.str "back"])) := Same.new h1
      have e1 : (upd H0 p1 (.tup [V.str "back"])) p1 = some (.tup [V.str "back"]) := upd_same
      generalize upd H0 p1 (.tup [V.str "back"]) = H1 at s1 e1 ⊢
      have B1 := B0.same s1
      refine ⟨(by show 1 ≤ sizeLine; decide), fun p2 h2 => ?_⟩
      have n2 := B1.ne h2
      have s2 : Same H1 (upd H1 p2 (.tup [V.str "halt"])) := Same.new h2
      have e2 : (upd H1 p2 (.tup [V.str "halt"])) p2 = some (.tup [V.str "halt"]) := upd_same
      generalize upd H1 p2 (.tup [V.str "halt"]) = H2 at s2 e2 ⊢
      have B2 := B1.same s2
      refine ⟨.ref b, rfl, (by show 4 ≤ sizeLine; decide), fun q hq => ⟨b, l, .ref q, fun v => ∃ i, v = .int i ∧ 1 ≤ i ∧ i ≤ 120, rfl, B2.new hq, .lst (B2.ne hq) (SqL.of upd_same) (by show 0 < 4; decide) (by show 4 ≤ 100000; decide) (memc ⟨_, rfl, by decide, by decide⟩ (memc ⟨_, rfl, by decide, by decide⟩ (memc ⟨_, rfl, by decide, by decide⟩ (mem1 ⟨_, rfl, by decide, by decide⟩)))), fun H3 u s3 B3 hu => ?_⟩⟩
      obtain ⟨i, rfl, i0, i1⟩ := hu
      replace s3 := (Stp.new hq).trans s3
      refine ⟨(by show 2 ≤ sizeLine; decide), fun p3 h3 => ?_⟩
      have n3 := B3.ne h3
      have s4 : Same H3 (upd H3 p3 (.tup [V.str "room", V.int i])) := Same.new h3
      have e4 : (upd H3 p3 (.tup [V.str "room", V.int i])) p3 = some (.tup [V.str "room", V.int i]) := upd_same
      generalize upd H3 p3 (.tup [V.str "room", V.int i]) = H4 at s4 e4 ⊢
      have B4 := B3.same s4
      refine ⟨(by show 3 ≤ sizeLine; decide), fun q4 hq4 => ?_⟩
      have u1 : Stp b H0 H4 := ((Same.stp (s1.trans s2)).trans s3).trans (Same.stp s4)
      have f2 : H4 p2 = some (.tup [V.str "halt"]) := s4 _ _ (s3 _ _ n2 e2)
      have f1 : H4 p1 = some (.tup [V.str "back"]) := s4 _ _ (s3 _ _ n1 (s2 _ _ e1))
      refine ⟨b, l, .ref q4, fun v => ∃ (a : Addr) (xs : List V), v = .ref a ∧ H4 a = some (.tup xs) ∧ a ≠ b ∧ CRow ts xs, rfl, B4.new hq4, .lst (B4.ne hq4) (SqL.of upd_same) (by show 0 < 3; decide) (by show 3 ≤ 100000; decide) (memc ⟨_, _, rfl, f1, n1, .back⟩ (memc ⟨_, _, rfl, f2, n2, .halt⟩ (mem1 ⟨_, _, rfl, e4, n3, .room i0 i1⟩))), fun H5 u s5 B5 hu => ?_⟩
      obtain ⟨a, xs, rfl, ea, na, hx⟩ := hu
      exact k _ a xs (((s0.trans u1).trans (Stp.new hq4)).trans s5) B5 (s5 _ _ na ((Stp.new hq4) _ _ na ea)) na hx
end

/-! ### the machine, as a plain function -/
theorem atI_int2 {cs : List Int} {i : Int} (h0 : 0 ≤ i) (h1 : i < cs.length) : atI (cs.map V.int) i = some (.int (cs.getD i.toNat 0)) ∧ ixN (cs.map V.int).length i = some i.toNat := by
  obtain ⟨j, rfl⟩ := Int.eq_ofNat_of_zero_le h0
  have hj : j < cs.length := by omega
  refine ⟨?_, ?_⟩
  · refine atI_nat ?_
    rw [List.getElem?_map, List.getElem?_eq_getElem hj]
    simp [List.getD_eq_getElem?_getD, List.getElem?_eq_getElem hj]
  · unfold ixN
    rw [if_pos h0, List.length_map, if_pos h1]
theorem iteFb {A B : Prop} {c : Bool} (h : c = false) (x : B) : if c = true then A else B := by
  rw [h]
  exact iteF x
theorem iteTb {A B : Prop} {c : Bool} (h : c = true) (x : A) : if c = true then A else B := by
  rw [h]
  exact iteT x
theorem in3 {c x y z : Int} : inV (.int c) [.int x, .int y, .int z] = true ↔ (c = x ∨ c = y ∨ c = z) := by
  show ((x == c) || ((y == c) || ((z == c) || false))) = true ↔ _
  rw [Bool.or_false, Bool.or_eq_true, Bool.or_eq_true, beq_iff_eq, beq_iff_eq, beq_iff_eq]
  omega
theorem in4 {c x y z t : Int} : inV (.int c) [.int x, .int y, .int z, .int t] = true ↔ (c = x ∨ c = y ∨ c = z ∨ c = t) := by
  show ((x == c) || ((y == c) || ((z == c) || ((t == c) || false)))) = true ↔ _
  rw [Bool.or_false, Bool.or_eq_true, Bool.or_eq_true, Bool.or_eq_true, beq_iff_eq, beq_iff_eq, beq_iff_eq, beq_iff_eq]
  omega
structure MS where
  own : List Int
  st : Option (Int × Int)
  here : Int
  way : Str
def cC (n : Int) : Int := n / 4096
def cA (n : Int) : Int := n / 1024 % 4
def cB (n : Int) : Int := n / 256 % 4
def cD (n : Int) : Int := n % 256
def nearI (n : Int) : Int := if cD n < 128 then cD n else cD n - 256
def gI (own : List Int) (i : Int) : Int := own.getD i.toNat 0
def goneI (n here : Int) : Int := (here + nearI n + 65536) % 65536
/-- one cell done -/
def mst (hd : Int × Int) (n : Int) (own : List Int) (here : Int) : MS :=
  if cC n = 2 then ⟨own.set (cA n).toNat (cD n * 256), none, (here + 1) % 65536, ""⟩
  else if cC n = 3 then ⟨own.set (cA n).toNat ((gI own (cA n) + nearI n + 65536) % 65536), none, (here + 1) % 65536, ""⟩
  else if cC n = 4 then ⟨own.set (cA n).toNat ((gI own (cA n) + gI own (cB n)) % 65536), none, (here + 1) % 65536, ""⟩
  else if cC n = 5 then ⟨own.set (cA n).toNat ((gI own (cA n) - gI own (cB n) + 65536) % 65536), none, (here + 1) % 65536, ""⟩
  else if cC n = 6 then ⟨own.set (cA n).toNat (if (gI own (cB n) + cD n) % 65536 = hd.1 then hd.2 else -1), none, (here + 1) % 65536, ""⟩
  else if cC n = 7 then ⟨own, some ((gI own (cB n) + cD n) % 65536, gI own (cA n)), (here + 1) % 65536, "store"⟩
  else if cC n = 8 ∨ (cC n = 9 ∧ gI own (cA n) = 0) then ⟨own, none, goneI n here, ""⟩
  else if cC n = 11 then ⟨own.set (cA n).toNat (goneI n here), none, (here + 1) % 65536, ""⟩
  else if cC n = 10 then ⟨own, none, goneI n here, "call"⟩
  else if cC n = 12 then ⟨own, none, gI own (cA n), "go"⟩
  else if cC n = 13 then ⟨own, none, gI own (cA n), "call"⟩
  else if cC n = 0 then ⟨own, none, (here + 1) % 65536, "fault"⟩
  else if cC n = 1 then ⟨own, none, (here + 1) % 65536, "halt"⟩
  else if cC n = 14 then ⟨own, none, (here + 1) % 65536, "back"⟩
  else if cC n = 15 then ⟨own, none, (here + 1) % 65536, ("out " : Str) ++ toString (gI own (cA n))⟩
  else ⟨own, none, (here + 1) % 65536, ""⟩
def spotI (pl here : Int) : Int := (here - pl + 65536) % 65536
/-- the way of a run: at most so many steps -/
inductive Path (ls : List Int) (pl : Int) (hd : Int × Int) : Nat → MS → MS → Prop where
  | done {s : MS} : Path ls pl hd 0 s s
  | stop {k : Nat} {s : MS} (h : (ls.length : Int) ≤ spotI pl s.here ∨ s.way ≠ "") : Path ls pl hd (k + 1) s s
  | step {k : Nat} {own : List Int} {here : Int} {s : MS} (h : spotI pl here < ls.length) (t : Path ls pl hd k (mst hd (gI ls (spotI pl here)) own here) s) : Path ls pl hd (k + 1) ⟨own, none, here, ""⟩ s
/-- the registers as they stand at q -/
def OwnAt (H : Hp) (q : Addr) (own : List Int) : Option (Int × Int) → Prop
  | none => H q = some (.lst (own.map V.int))
  | some (x, y) => ∃ t, H q = some (.lst (own.map V.int ++ [.ref t])) ∧ H t = some (.tup [.int x, .int y])
theorem OwnAt.same {H H' : Hp} {q : Addr} {own : List Int} {st : Option (Int × Int)} (s : Same H H') (h : OwnAt H q own st) : OwnAt H' q own st := by
  cases st with
  | none => exact s _ _ h
  | some p =>
    obtain ⟨t, h1, h2⟩ := h
    exact ⟨t, s _ _ h1, s _ _ h2⟩
def Wd (x : Int) : Prop := -1 ≤ x ∧ x ≤ 65535
theorem Wd.log {x : Int} (h : Wd x) : x.natAbs.log2 < 1920 := by
  have h1 : x.natAbs ≤ 65535 := by
    obtain ⟨a, b⟩ := h
    omega
  by_cases h0 : x.natAbs = 0
  · rw [h0]
    decide
  · exact Nat.lt_trans ((Nat.log2_lt h0).mpr (show x.natAbs < 2 ^ 17 by omega)) (by decide)
theorem Wd.set {own : List Int} {i : Nat} {x : Int} (h : ∀ y ∈ own, Wd y) (hx : Wd x) : ∀ y ∈ own.set i x, Wd y := fun y m => by
  rcases List.mem_or_eq_of_mem_set m with m | rfl
  · exact h y m
  · exact hx
theorem Wd.get {own : List Int} {i : Int} (h : ∀ y ∈ own, Wd y) (h0 : 0 ≤ i) (h1 : i < own.length) : Wd (gI own i) := by
  unfold gI
  rw [List.getD_eq_getElem?_getD, List.getElem?_eq_getElem (show i.toNat < own.length by omega)]
  exact h _ (List.getElem_mem _)
theorem own_mem {own : List Int} {i : Int} (h0 : 0 ≤ i) (h1 : i < own.length) : gI own i ∈ own := by
  unfold gI
  rw [List.getD_eq_getElem?_getD, List.getElem?_eq_getElem (show i.toNat < own.length by omega)]
  exact List.getElem_mem _
theorem out_len {x : Int} (h : Wd x) : ("out " : Str).length + (Str.ofString (toString x)).length ≤ sizeLine := by
  have q := int_text_length_le10 (a := x) (k := 6) (by decide) (by obtain ⟨a, b⟩ := h; omega)
  rw [PySem.ofString_length (toString x)]
  exact Nat.le_trans (Nat.add_le_add_left q _) (by decide +kernel)
theorem Wd.mod (x : Int) : Wd (x % 65536) := by
  unfold Wd
  omega
section
variable {P : Program} {w : World} {K : PySem.W.Frag} {mg : Str → Option Value} {base : Heap} {Z : Fs}
def sp_law_done (K : PySem.W.Frag) : Sp := fun vs H Q _ => ∃ (a r h : Addr) (ls own : List Int) (pl : Int) (hd : Int × Int) (s : MS), vs = [.ref a, .int pl, .ref r, .ref h] ∧ H a = some (.lst (ls.map V.int)) ∧ H r = some (.lst (own.map V.int)) ∧ SqT K H h [.int hd.1, .int hd.2] ∧ ls.length ≤ 120 ∧ own.length = 4 ∧ (∀ y ∈ own, Wd y) ∧ Wd hd.2 ∧ Path ls pl hd (ls.length + 1) ⟨own, none, pl, ""⟩ s ∧
  ∀ (H' : Hp) (p q : Addr), Same H H' → H p = none → H' p = some (.tup [.ref q, .int s.here, .str s.way]) → OwnAt H' q s.own s.st → s.own.length = 4 → (∀ y ∈ s.own, Wd y) → Q (.ref p) H'
theorem ok_law_done (T : Txt K w mg Z) : FnOk P w K mg base CX0 1 Z.a_law_done Z.d_law_done ["_law_lot", "_law_place_y", "_law_registers", "_law_held"] (sp_law_done K) := by
  refine T.F_law_done.ok sc_law_done (fun vs H Q E h => ?_) (fun cdv A outer s H vs Q E hr h => ?_)
  · obtain ⟨a, r, h, ls, own, pl, hd, s, rfl, _⟩ := h
    rfl
  · obtain ⟨a, r, h, ls, own0, pl, hd, fin, rfl, ea, er, eh, hl, lo, wd, wh, pa, k⟩ := h
    refine ⟨_, (pss_cons (ps_par3 (i := 4) (j := 5) (l := 6) (by rfl) sc_law_done.nd rfl rfl rfl (by decide) (by decide) (by decide) rfl rfl rfl (pa_cons (pe_callTy call_list_of (by rfl) T.n_list boot_list (pa_cons (pv 2) pa_nil)) (pa_cons (pv 1) (pa_cons pe_str pa_nil))) (by rfl))
      (pss_cons (ps_for PassesOwn.never rfl (pi_range1 (by rfl) T.n_range (pa_cons (pe_op op_add (pe_callB call_len (by rfl) T.n_len boot_len (pa_cons (pv 0) pa_nil)) pe_int) pa_nil)) (pg_name (i := 7) sc_law_done.nd rfl (Or.inl rfl)) (pss_cons (ps_set (i := 8) sc_law_done.nd rfl (Or.inl rfl) (pe_op op_mod (pe_callTy call_int1 (by rfl) T.n_int boot_int (pa_cons (pe_op op_add (pe_op op_sub (pv 5) (pv 1)) pe_int) pa_nil)) pe_int))
      (pss_cons (ps_if (PW.pt (pw_or (pt_cmpR op_ge (pv 8) (pe_callB call_len (by rfl) T.n_len boot_len (pa_cons (pv 0) pa_nil)) (nomark _)) (pw_or1 (pt_cmpR op_ne (pv 6) pe_str (nomark _))))) (pss_one ps_break) pss_nil)
      (pss_cons (ps_set (i := 9) sc_law_done.nd rfl (Or.inl rfl) (pe_ix ix_list (pv 0) (pv 8) (fun _ _ => rfl)))
      (pss_cons (ps_par3 (i := 10) (j := 11) (l := 12) (by rfl) sc_law_done.nd rfl rfl rfl (by decide) (by decide) (by decide) rfl rfl rfl (pa_cons (pe_op op_fdiv (pv 9) pe_int) (pa_cons (pe_op op_mod (pe_op op_fdiv (pv 9) pe_int) pe_int) (pa_cons (pe_op op_mod (pe_op op_fdiv (pv 9) pe_int) pe_int) pa_nil))) (by rfl))
      (pss_cons (ps_set (i := 13) sc_law_done.nd rfl (Or.inl rfl) (pe_op op_mod (pv 9) pe_int))
      (C8.pss_cut (ps_set (i := 14) sc_law_done.nd rfl (Or.inl rfl) (pe_ifExp (pt_cmpR op_lt (pv 13) pe_int (nomark _)) (pv 13) (pe_op op_sub (pv 13) pe_int)))
      (pss_cons (ps_par (i := 15) (j := 5) (by rfl) sc_law_done.nd rfl rfl (by decide) rfl rfl (pa_cons (pe_op op_mod (pe_callTy call_int1 (by rfl) T.n_int boot_int (pa_cons (pe_op op_add (pe_op op_add (pv 5) (pv 14)) pe_int) pa_nil)) pe_int) (pa_cons (pe_op op_mod (pe_callTy call_int1 (by rfl) T.n_int boot_int (pa_cons (pe_op op_add (pv 5) pe_int) pa_nil)) pe_int) pa_nil)) (by rfl))
      (pss_one (ps_if (pt_cmpR op_eq (pv 10) pe_int (nomark _)) (pss_one (ps_asg (pe_op op_mul (pv 13) pe_int) (pg_sub (pv 4) (pv 11) set_list))) (pss_one (ps_if (pt_cmpR op_eq (pv 10) pe_int (nomark _)) (pss_one (ps_asg (pe_op op_mod (pe_callTy call_int1 (by rfl) T.n_int boot_int (pa_cons (pe_op op_add (pe_op op_add (pe_ix ix_list (pv 4) (pv 11) (fun _ _ => rfl)) (pv 14)) pe_int) pa_nil)) pe_int) (pg_sub (pv 4) (pv 11) set_list))) (pss_one (ps_if (pt_cmpR op_eq (pv 10) pe_int (nomark _)) (pss_one (ps_asg (pe_op op_mod (pe_callTy call_int1 (by rfl) T.n_int boot_int (pa_cons (pe_op op_add (pe_ix ix_list (pv 4) (pv 11) (fun _ _ => rfl)) (pe_ix ix_list (pv 4) (pv 12) (fun _ _ => rfl))) pa_nil)) pe_int) (pg_sub (pv 4) (pv 11) set_list))) (pss_one (ps_if (pt_cmpR op_eq (pv 10) pe_int (nomark _)) (pss_one (ps_asg (pe_op op_mod (pe_callTy call_int1 (by rfl) T.n_int boot_int (pa_cons (pe_op op_add (pe_op op_sub (pe_ix ix_list (pv 4) (pv 11) (fun _ _ => rfl)) (pe_ix ix_list (pv 4) (pv 12) (fun _ _ => rfl))) pe_int) pa_nil)) pe_int) (pg_sub (pv 4) (pv 11) set_list))) (pss_one (ps_if (pt_cmpR op_eq (pv 10) pe_int (nomark _)) (pss_one (ps_asg (pe_ifExp (pt_cmpR op_eq (pe_op op_mod (pe_callTy call_int1 (by rfl) T.n_int boot_int (pa_cons (pe_op op_add (pe_ix ix_list (pv 4) (pv 12) (fun _ _ => rfl)) (pv 13)) pa_nil)) pe_int) (pe_ix ix_tup (pv 3) pe_int (fun _ _ => rfl)) (nomark _)) (pe_ix ix_tup (pv 3) pe_int (fun _ _ => rfl)) (pe_un un_neg pe_int)) (pg_sub (pv 4) (pv 11) set_list))) (pss_one (ps_if (pt_cmpR op_eq (pv 10) pe_int (nomark _)) (pss_cons (ps_set (i := 6) sc_law_done.nd rfl (Or.inl rfl) pe_str)
      (pss_one (ps_expr (pe_bm PySem.F.plainAttrs_list PySem.F.slot_list_append PySem.F.type_list_append mt_append (pv 4) (pa_cons (pe_tup (pa_cons (pe_op op_mod (pe_callTy call_int1 (by rfl) T.n_int boot_int (pa_cons (pe_op op_add (pe_ix ix_list (pv 4) (pv 12) (fun _ _ => rfl)) (pv 13)) pa_nil)) pe_int) (pa_cons (pe_ix ix_list (pv 4) (pv 11) (fun _ _ => rfl)) pa_nil))) pa_nil))))) (pss_one (ps_if (PW.pt (pw_or (pt_cmpR op_eq (pv 10) pe_int (nomark _)) (pw_or1 (PW.pt (pw_and (pt_cmpR op_eq (pv 10) pe_int (nomark _)) (pw_and1 (pt_cmpR op_eq (pe_ix ix_list (pv 4) (pv 11) (fun _ _ => rfl)) pe_int (nomark _)))))))) (pss_one (ps_set (i := 5) sc_law_done.nd rfl (Or.inl rfl) (pv 15))) (pss_one (ps_if (pt_cmpR op_eq (pv 10) pe_int (nomark _)) (pss_one (ps_asg (pv 15) (pg_sub (pv 4) (pv 11) set_list))) (pss_one (ps_if (pt_cmpR (op_in_seq : OpR _ _ (rIn K false)) (pv 10) (pe_lst (pa_cons pe_int (pa_cons pe_int (pa_cons pe_int pa_nil)))) (by rfl)) (pss_one (ps_par (i := 5) (j := 6) (by rfl) sc_law_done.nd rfl rfl (by decide) rfl rfl (pa_cons (pe_ifExp (pt_cmpR op_eq (pv 10) pe_int (nomark _)) (pv 15) (pe_ix ix_list (pv 4) (pv 11) (fun _ _ => rfl))) (pa_cons (pe_ifExp (pt_cmpR op_eq (pv 10) pe_int (nomark _)) pe_str pe_str) pa_nil)) (by rfl))) (pss_one (ps_if (pt_cmpR (op_in_seq : OpR _ _ (rIn K false)) (pv 10) (pe_lst (pa_cons pe_int (pa_cons pe_int (pa_cons pe_int (pa_cons pe_int pa_nil))))) (by rfl)) (pss_one (ps_set (i := 6) sc_law_done.nd rfl (Or.inl rfl) (pe_dget (Nat.lt_of_le_of_lt (Nat.add_le_add_left (show 1 ≤ 64 by decide) _) hr.units) (pe_disp (pps_cons pe_int pe_str (pps_cons pe_int pe_str (pps_cons pe_int pe_str (pps_cons pe_int (pe_op op_add_str pe_str (pe_callTy call_str_int (by rfl) T.n_str boot_str (pa_cons (pe_ix ix_list (pv 4) (pv 11) (fun _ _ => rfl)) pa_nil))) pps_nil)))) (by rfl) (by rfl) (fun z => by cases z) (by decide)) (pv 10) (fun _ _ => rfl)))) pss_nil))))))))))))))))))))))))))))
      (pss_one (ps_ret (pe_tup (pa_cons (pv 4) (pa_cons (pv 5) (pa_cons (pv 6) pa_nil)))))))), ?_⟩
    refine ⟨.ref r, rfl, r, _, rfl, .inl (SqL.of er), fun q hq => ⟨.int pl, rfl, _, _, _, rfl, ?_⟩⟩
    have s0 : Same H (upd H q (.lst (own0.map V.int))) := Same.new hq
    have eq : (upd H q (.lst (own0.map V.int))) q = some (.lst (own0.map V.int)) := upd_same
    generalize upd H q (.lst (own0.map V.int)) = H0 at s0 eq ⊢
    have ea0 := s0 _ _ ea
    have eh0 := Same.sqT s0 eh
    have naq : a ≠ q := ne_of_none ea hq
    refine ⟨.ref a, rfl, .ref a, ls.length, rfl, .inl ⟨_, SqL.of ea0, by rw [List.length_map]⟩, _, _, rfl, rfl, ?_⟩
    have e1 : ((ls.length : Int) + 1).toNat = ls.length + 1 := by omega
    -- the end
    have ret : ∀ (G : Hp), Stp q H0 G → OwnAt G q fin.own fin.st → fin.own.length = 4 → (∀ y ∈ fin.own, Wd y) → ∀ p, G p = none → Q (.ref p) (upd G p (.tup [.ref q, .int fin.here, .str fin.way])) := fun G sG ow l4 wo p hp => by
      have sH : Same H G := fun p' o h => sG _ _ (ne_of_none h hq) (s0 _ _ h)
      exact k _ p q (sH.trans (Same.new hp)) (sH.free hp) upd_same (ow.same (Same.new hp)) l4 wo
    refine ⟨_, rfl, by omega, by omega, for_range (lo := 0) (n := ((ls.length : Int) + 1).toNat) (fun i σ G => ∃ (s : MS) (kk : Nat) (y7 y8 y9 y10 y11 y12 y13 y14 y15 : Option V), σ = [some (.ref a), some (.int pl), some (.ref r), some (.ref h), some (.ref q), some (.int s.here), some (.str s.way), y7, y8, y9, y10, y11, y12, y13, y14, y15] ∧ kk + i = ls.length + 1 ∧ Path ls pl hd kk s fin ∧ OwnAt G q s.own s.st ∧ Stp q H0 G ∧ s.own.length = 4 ∧ ∀ y ∈ s.own, Wd y)
      ⟨_, ls.length + 1, _, _, _, _, _, _, _, _, _, rfl, rfl, pa, eq, Stp.refl, lo, wd⟩ ?_ ?_⟩
    · rintro i σ G hi ⟨S, kk, y7, y8, y9, y10, y11, y12, y13, y14, y15, rfl, hk, pt, ow, sG, l4, wo⟩
      have eaG := sG _ _ naq ea0
      refine ⟨.int S.here, rfl, .int pl, rfl, _, _, rfl, rfl, _, _, rfl, rfl, .inl ⟨_, rfl, _, _, rfl, rfl, (by show (0 : Int) < 65536; decide), ?_⟩⟩
      obtain ⟨kk, rfl⟩ : ∃ k', kk = k' + 1 := ⟨kk - 1, by omega⟩
      refine ⟨_, rfl, .ref a, rfl, .ref a, ls.length, rfl, .inl ⟨_, SqL.of eaG, by rw [List.length_map]⟩, _, _, rfl, rfl, _, rfl, ite2 (fun c => ?_) (fun c => ?_)⟩
      · -- out of the cells
        have c' : (ls.length : Int) ≤ spotI pl S.here := of_decide_eq_true c
        have ef : fin = S := by
          cases pt with
          | stop => rfl
          | step h _ => exact absurd h (Int.not_lt.mpr c')
        subst ef
        refine iteT ?_
        exact ⟨_, rfl, _, rfl, _, rfl, (by show 3 ≤ sizeLine; decide), fun p hp => ret G sG ow l4 wo p hp⟩
      have c' : spotI pl S.here < (ls.length : Int) := by
        have q : ¬ (ls.length : Int) ≤ spotI pl S.here := fun q => c (decide_eq_true q)
        omega
      cases pt with
      | stop h =>
        have hw := h.resolve_left (by omega)
        refine ⟨_, rfl, rfl, _, rfl, iteTb (by simp; exact hw) ?_⟩
        exact ⟨_, rfl, _, rfl, _, rfl, (by show 3 ≤ sizeLine; decide), fun p hp => ret G sG ow l4 wo p hp⟩
      | @step k' own here s' hs pt =>
      refine ⟨_, rfl, rfl, _, rfl, iteFb (by show (!decide (V.str "" = V.str "")) = false; decide +kernel) ?_⟩
      have ow : G q = some (.lst (own.map V.int)) := ow
      have l4 : own.length = 4 := l4
      have wo : ∀ y ∈ own, Wd y := wo
      have hs0 : 0 ≤ spotI pl here := by unfold spotI; omega
      obtain ⟨g0, g1⟩ := atI_int2 (cs := ls) hs0 hs
      refine ⟨.ref a, rfl, _, rfl, a, _, _, _, rfl, rfl, SqL.of eaG, g0, ?_⟩
      change Path ls pl hd kk (mst hd (ls.getD (spotI pl here).toNat 0) own here) fin at pt
      generalize ls.getD (spotI pl here).toNat 0 = N at pt ⊢
      clear g0 g1
      refine ⟨_, rfl, _, _, rfl, rfl, ⟨by decide, by decide⟩, _, rfl, _, _, rfl, rfl, ⟨by decide, by decide⟩, _, _, rfl, rfl, (by show (0 : Int) < 4; decide), _, rfl, _, _, rfl, rfl, ⟨by decide, by decide⟩, _, _, rfl, rfl, (by show (0 : Int) < 4; decide), _, _, _, rfl, ?_⟩
      refine ⟨_, rfl, _, _, rfl, rfl, (by show (0 : Int) < 256; decide), ?_⟩
      refine ⟨fun σ G' => G = G' ∧ ∃ (y7 y8 y9 y15 : Option V) (z : Int), σ = [some (.ref a), some (.int pl), some (.ref r), some (.ref h), some (.ref q), some (.int here), some (.str ""), y7, y8, y9, some (.int (cC N)), some (.int (cA N)), some (.int (cB N)), some (.int (cD N)), some (.int z), y15] ∧ z = nearI N, ⟨_, rfl, _, _, rfl, rfl, _, rfl, ite2 (fun hn => ?_) (fun hn => ?_)⟩, ?_⟩
      · have e : cD N = nearI N := (if_pos (of_decide_eq_true hn)).symm
        refine ⟨_, rfl, ?_⟩
        exact ⟨rfl, _, _, _, _, _, rfl, e⟩
      · have e : cD N - 256 = nearI N := (if_neg (fun z => hn (decide_eq_true z))).symm
        refine ⟨_, rfl, _, _, rfl, rfl, ?_⟩
        exact ⟨rfl, _, _, _, _, _, rfl, e⟩
      · rintro σ _ ⟨rfl, y7, y8, y9, y15, z, rfl, rfl⟩
        refine ⟨_, rfl, _, rfl, _, _, rfl, rfl, _, _, rfl, rfl, .inl ⟨_, rfl, _, _, rfl, rfl, (by show (0 : Int) < 65536; decide), _, rfl, _, _, rfl, rfl, .inl ⟨_, rfl, _, _, rfl, rfl, (by show (0 : Int) < 65536; decide), _, _, rfl, ?_⟩⟩⟩
        have a0 : 0 ≤ cA N ∧ cA N < own.length := by unfold cA; omega
        have b0 : 0 ≤ cB N ∧ cB N < own.length := by unfold cB; omega
        have d0 : 0 ≤ cD N ∧ cD N ≤ 255 := by unfold cD; omega
        obtain ⟨gA, iA⟩ := atI_int2 (cs := own) a0.1 a0.2
        obtain ⟨gB, iB⟩ := atI_int2 (cs := own) b0.1 b0.2
        change atI (own.map V.int) (cA N) = some (.int (gI own (cA N))) at gA
        change atI (own.map V.int) (cB N) = some (.int (gI own (cB N))) at gB
        have sH : Same H G := fun p' o h => sG _ _ (ne_of_none h hq) (s0 _ _ h)
        have ehG := Same.sqT sH eh
        have put : ∀ x : Int, Wd x → (upd G q (.lst ((own.map V.int).set (cA N).toNat (.int x)))) q = some (.lst ((own.set (cA N).toNat x).map V.int)) ∧ Stp q H0 (upd G q (.lst ((own.map V.int).set (cA N).toNat (.int x)))) ∧ (own.set (cA N).toNat x).length = 4 ∧ ∀ y ∈ own.set (cA N).toNat x, Wd y := fun x hx => ⟨by rw [upd_same, List.map_set], sG.trans Stp.put, by rw [List.length_set]; exact l4, Wd.set wo hx⟩
        refine ⟨_, rfl, rfl, _, rfl, ite2 (fun h2 => ?_) (fun h2 => ?_)⟩
        · replace h2 : cC N = 2 := V.int.inj (of_decide_eq_true h2)
          rw [show mst hd N own here = ⟨own.set (cA N).toNat (cD N * 256), none, (here + 1) % 65536, ""⟩ from by unfold mst; rw [if_pos h2]] at pt
          obtain ⟨u1, u2, u3, u4⟩ := put (cD N * 256) (by unfold Wd; omega)
          exact ⟨_, rfl, _, _, rfl, rfl, .inr ⟨by decide, by decide⟩, .ref q, rfl, _, rfl, q, _, _, _, rfl, rfl, ow, iA, ⟨_, none, _, ""⟩, kk, _, _, _, _, _, _, _, _, _, rfl, by omega, pt, u1, u2, u3, u4⟩
        replace h2 : cC N ≠ 2 := fun z => h2 (decide_eq_true (by rw [z]))
        refine ⟨_, rfl, rfl, _, rfl, ite2 (fun h3 => ?_) (fun h3 => ?_)⟩
        · replace h3 : cC N = 3 := V.int.inj (of_decide_eq_true h3)
          rw [show mst hd N own here = ⟨own.set (cA N).toNat ((gI own (cA N) + nearI N + 65536) % 65536), none, (here + 1) % 65536, ""⟩ from by unfold mst; rw [if_neg h2, if_pos h3]] at pt
          obtain ⟨u1, u2, u3, u4⟩ := put ((gI own (cA N) + nearI N + 65536) % 65536) (Wd.mod _)
          exact ⟨.ref q, rfl, _, rfl, q, _, _, _, rfl, rfl, SqL.of ow, gA, _, rfl, _, _, rfl, rfl, _, _, rfl, rfl, .inl ⟨_, rfl, _, _, rfl, rfl, (by show (0 : Int) < 65536; decide), .ref q, rfl, _, rfl, q, _, _, _, rfl, rfl, ow, iA, ⟨_, none, _, ""⟩, kk, _, _, _, _, _, _, _, _, _, rfl, by omega, pt, u1, u2, u3, u4⟩⟩
        replace h3 : cC N ≠ 3 := fun z => h3 (decide_eq_true (by rw [z]))
        refine ⟨_, rfl, rfl, _, rfl, ite2 (fun h4 => ?_) (fun h4 => ?_)⟩
        · replace h4 : cC N = 4 := V.int.inj (of_decide_eq_true h4)
          rw [show mst hd N own here = ⟨own.set (cA N).toNat ((gI own (cA N) + gI own (cB N)) % 65536), none, (here + 1) % 65536, ""⟩ from by unfold mst; rw [if_neg h2, if_neg h3, if_pos h4]] at pt
          obtain ⟨u1, u2, u3, u4⟩ := put ((gI own (cA N) + gI own (cB N)) % 65536) (Wd.mod _)
          exact ⟨.ref q, rfl, _, rfl, q, _, _, _, rfl, rfl, SqL.of ow, gA, .ref q, rfl, _, rfl, q, _, _, _, rfl, rfl, SqL.of ow, gB, _, _, rfl, rfl, .inl ⟨_, rfl, _, _, rfl, rfl, (by show (0 : Int) < 65536; decide), .ref q, rfl, _, rfl, q, _, _, _, rfl, rfl, ow, iA, ⟨_, none, _, ""⟩, kk, _, _, _, _, _, _, _, _, _, rfl, by omega, pt, u1, u2, u3, u4⟩⟩
        replace h4 : cC N ≠ 4 := fun z => h4 (decide_eq_true (by rw [z]))
        refine ⟨_, rfl, rfl, _, rfl, ite2 (fun h5 => ?_) (fun h5 => ?_)⟩
        · replace h5 : cC N = 5 := V.int.inj (of_decide_eq_true h5)
          rw [show mst hd N own here = ⟨own.set (cA N).toNat ((gI own (cA N) - gI own (cB N) + 65536) % 65536), none, (here + 1) % 65536, ""⟩ from by unfold mst; rw [if_neg h2, if_neg h3, if_neg h4, if_pos h5]] at pt
          obtain ⟨u1, u2, u3, u4⟩ := put ((gI own (cA N) - gI own (cB N) + 65536) % 65536) (Wd.mod _)
          exact ⟨.ref q, rfl, _, rfl, q, _, _, _, rfl, rfl, SqL.of ow, gA, .ref q, rfl, _, rfl, q, _, _, _, rfl, rfl, SqL.of ow, gB, _, _, rfl, rfl, _, _, rfl, rfl, .inl ⟨_, rfl, _, _, rfl, rfl, (by show (0 : Int) < 65536; decide), .ref q, rfl, _, rfl, q, _, _, _, rfl, rfl, ow, iA, ⟨_, none, _, ""⟩, kk, _, _, _, _, _, _, _, _, _, rfl, by omega, pt, u1, u2, u3, u4⟩⟩
        replace h5 : cC N ≠ 5 := fun z => h5 (decide_eq_true (by rw [z]))
        refine ⟨_, rfl, rfl, _, rfl, ite2 (fun h6 => ?_) (fun h6 => ?_)⟩
        · replace h6 : cC N = 6 := V.int.inj (of_decide_eq_true h6)
          rw [show mst hd N own here = ⟨own.set (cA N).toNat (if (gI own (cB N) + cD N) % 65536 = hd.1 then hd.2 else -1), none, (here + 1) % 65536, ""⟩ from by unfold mst; rw [if_neg h2, if_neg h3, if_neg h4, if_neg h5, if_pos h6]] at pt
          refine ⟨.ref q, rfl, _, rfl, q, _, _, _, rfl, rfl, SqL.of ow, gB, _, rfl, _, _, rfl, rfl, .inl ⟨_, rfl, _, _, rfl, rfl, (by show (0 : Int) < 65536; decide), .ref h, rfl, h, _, 0, _, rfl, rfl, ehG, atI_nat (j := 0) rfl, rfl, _, rfl, ite2 (fun hh => ?_) (fun hh => ?_)⟩⟩
          · rw [if_pos (V.int.inj (of_decide_eq_true hh))] at pt
            obtain ⟨u1, u2, u3, u4⟩ := put hd.2 wh
            exact ⟨.ref h, rfl, h, _, 1, _, rfl, rfl, ehG, atI_nat (j := 1) rfl, .ref q, rfl, _, rfl, q, _, _, _, rfl, rfl, ow, iA, ⟨_, none, _, ""⟩, kk, _, _, _, _, _, _, _, _, _, rfl, by omega, pt, u1, u2, u3, u4⟩
          · rw [if_neg (fun z => hh (decide_eq_true (show V.int ((gI own (cB N) + cD N) % 65536) = V.int hd.1 by rw [z])))] at pt
            obtain ⟨u1, u2, u3, u4⟩ := put (-1) (by unfold Wd; omega)
            exact ⟨1, rfl, .ref q, rfl, _, rfl, q, _, _, _, rfl, rfl, ow, iA, ⟨_, none, _, ""⟩, kk, _, _, _, _, _, _, _, _, _, rfl, by omega, pt, u1, u2, u3, u4⟩
        replace h6 : cC N ≠ 6 := fun z => h6 (decide_eq_true (by rw [z]))
        refine ⟨_, rfl, rfl, _, rfl, ite2 (fun h7 => ?_) (fun h7 => ?_)⟩
        · replace h7 : cC N = 7 := V.int.inj (of_decide_eq_true h7)
          rw [show mst hd N own here = ⟨own, some ((gI own (cB N) + cD N) % 65536, gI own (cA N)), (here + 1) % 65536, "store"⟩ from by unfold mst; rw [if_neg h2, if_neg h3, if_neg h4, if_neg h5, if_neg h6, if_pos h7]] at pt
          refine ⟨.ref q, rfl, .inl ⟨rfl, _, SqL.of ow⟩, .ref q, rfl, _, rfl, q, _, _, _, rfl, rfl, SqL.of ow, gB, _, rfl, _, _, rfl, rfl, .inl ⟨_, rfl, _, _, rfl, rfl, (by show (0 : Int) < 65536; decide), .ref q, rfl, _, rfl, q, _, _, _, rfl, rfl, SqL.of ow, gA, (by show 2 ≤ sizeLine; decide), fun t ht => ?_⟩⟩
          have ntq : t ≠ q := fun z => by rw [z, ow] at ht; cases ht
          have owt := Same.new (o := .tup [.int ((gI own (cB N) + cD N) % 65536), .int (gI own (cA N))]) ht _ _ ow
          refine ⟨q, _, _, rfl, rfl, owt, Nat.lt_of_le_of_lt (show _ ≤ 4 by rw [List.length_map]; omega) (by decide), ?_⟩
          exact ⟨⟨own, some _, _, "store"⟩, kk, _, _, _, _, _, _, _, _, _, rfl, by omega, pt, ⟨t, upd_same, by rw [upd_ne ntq]; exact upd_same⟩, (sG.trans (Same.stp (Same.new ht))).trans Stp.put, l4, wo⟩
        replace h7 : cC N ≠ 7 := fun z => h7 (decide_eq_true (by rw [z]))
        refine ⟨_, rfl, rfl, _, rfl, ite2 (fun h8 => ?_) (fun h8 => ?_)⟩
        · replace h8 : cC N = 8 := V.int.inj (of_decide_eq_true h8)
          rw [show mst hd N own here = ⟨own, none, goneI N here, ""⟩ from by unfold mst; rw [if_neg h2, if_neg h3, if_neg h4, if_neg h5, if_neg h6, if_neg h7, if_pos (.inl h8)]] at pt
          exact iteT ⟨_, rfl, ⟨own, none, _, ""⟩, kk, _, _, _, _, _, _, _, _, _, rfl, by omega, pt, ow, sG, l4, wo⟩
        replace h8 : cC N ≠ 8 := fun z => h8 (decide_eq_true (by rw [z]))
        refine ⟨_, rfl, rfl, _, rfl, ite2 (fun h9 => ?_) (fun h9 => ?_)⟩
        · replace h9 : cC N = 9 := V.int.inj (of_decide_eq_true h9)
          refine ⟨.ref q, rfl, _, rfl, q, _, _, _, rfl, rfl, SqL.of ow, gA, rfl, _, rfl, ite2 (fun h0 => ?_) (fun h0 => ?_)⟩
          · replace h0 : gI own (cA N) = 0 := V.int.inj (of_decide_eq_true h0)
            rw [show mst hd N own here = ⟨own, none, goneI N here, ""⟩ from by unfold mst; rw [if_neg h2, if_neg h3, if_neg h4, if_neg h5, if_neg h6, if_neg h7, if_pos (.inr ⟨h9, h0⟩)]] at pt
            exact ⟨_, rfl, ⟨own, none, _, ""⟩, kk, _, _, _, _, _, _, _, _, _, rfl, by omega, pt, ow, sG, l4, wo⟩
          · replace h0 : gI own (cA N) ≠ 0 := fun z => h0 (decide_eq_true (by rw [z]))
            refine ⟨_, rfl, rfl, _, rfl, iteN (fun z => by have z := V.int.inj z; omega) ?_⟩
            refine ⟨_, rfl, (by show 3 ≤ sizeLine; decide), fun m hm => ⟨m, _, rfl, .inl (SqL.of upd_same), rfl, rfl, _, rfl, iteFb (by show inV (V.int (cC N)) [.int 10, .int 12, .int 13] = false; rw [h9]; decide +kernel) ?_⟩⟩
            have sm := Same.new (o := .lst [.int 10, .int 12, .int 13]) hm
            refine ⟨_, rfl, (by show 4 ≤ sizeLine; decide), fun m2 hm2 => ⟨m2, _, rfl, .inl (SqL.of upd_same), rfl, rfl, _, rfl, iteFb (by show inV (V.int (cC N)) [.int 0, .int 1, .int 14, .int 15] = false; rw [h9]; decide +kernel) ?_⟩⟩
            have sm2 := sm.trans (Same.new (o := .lst [.int 0, .int 1, .int 14, .int 15]) hm2)
            rw [show mst hd N own here = ⟨own, none, (here + 1) % 65536, ""⟩ from by unfold mst; rw [if_neg h2, if_neg h3, if_neg h4, if_neg h5, if_neg h6, if_neg h7, if_neg (fun z => z.elim h8 (fun y => h0 y.2)), if_neg (by omega), if_neg (by omega), if_neg (by omega), if_neg (by omega), if_neg (by omega), if_neg (by omega), if_neg (by omega), if_neg (by omega)]] at pt
            exact ⟨⟨own, none, _, ""⟩, kk, _, _, _, _, _, _, _, _, _, rfl, by omega, pt, sm2 _ _ ow, sG.trans (Same.stp sm2), l4, wo⟩
        replace h9 : cC N ≠ 9 := fun z => h9 (decide_eq_true (by rw [z]))
        refine iteF ?_
        have n89 : ¬ (cC N = 8 ∨ (cC N = 9 ∧ gI own (cA N) = 0)) := fun z => z.elim h8 (fun y => h9 y.1)
        refine ⟨_, rfl, rfl, _, rfl, ite2 (fun h11 => ?_) (fun h11 => ?_)⟩
        · replace h11 : cC N = 11 := V.int.inj (of_decide_eq_true h11)
          rw [show mst hd N own here = ⟨own.set (cA N).toNat (goneI N here), none, (here + 1) % 65536, ""⟩ from by unfold mst; rw [if_neg h2, if_neg h3, if_neg h4, if_neg h5, if_neg h6, if_neg h7, if_neg n89, if_pos h11]] at pt
          obtain ⟨u1, u2, u3, u4⟩ := put (goneI N here) (Wd.mod _)
          exact ⟨_, rfl, .ref q, rfl, _, rfl, q, _, _, _, rfl, rfl, ow, iA, ⟨_, none, _, ""⟩, kk, _, _, _, _, _, _, _, _, _, rfl, by omega, pt, u1, u2, u3, u4⟩
        replace h11 : cC N ≠ 11 := fun z => h11 (decide_eq_true (by rw [z]))
        refine ⟨_, rfl, (by show 3 ≤ sizeLine; decide), fun m hm => ⟨m, _, rfl, .inl (SqL.of upd_same), rfl, rfl, _, rfl, ?_⟩⟩
        have sm : Same G (upd G m (.lst [.int 10, .int 12, .int 13])) := Same.new hm
        replace sG := sG.trans (Same.stp sm)
        replace ow := sm _ _ ow
        generalize upd G m (.lst [.int 10, .int 12, .int 13]) = G1 at sm sG ow ⊢
        show if inV (V.int (cC N)) [.int 10, .int 12, .int 13] = true then _ else _
        cases hq3 : inV (V.int (cC N)) [.int 10, .int 12, .int 13] with
        | true =>
          refine iteT ?_
          rcases in3.mp hq3 with h | h | h
          · rw [show mst hd N own here = ⟨own, none, goneI N here, "call"⟩ from by unfold mst; rw [if_neg h2, if_neg h3, if_neg h4, if_neg h5, if_neg h6, if_neg h7, if_neg n89, if_neg h11, if_pos h]] at pt
            refine ⟨_, rfl, rfl, _, rfl, iteY (congrArg V.int h) ⟨_, rfl, _, rfl, rfl, _, rfl, iteN (fun z => by have z : cC N = 12 := V.int.inj z; omega) ⟨_, _, rfl, ?_⟩⟩⟩
            exact ⟨⟨own, none, _, "call"⟩, kk, _, _, _, _, _, _, _, _, _, rfl, by omega, pt, ow, sG, l4, wo⟩
          · rw [show mst hd N own here = ⟨own, none, gI own (cA N), "go"⟩ from by unfold mst; rw [if_neg h2, if_neg h3, if_neg h4, if_neg h5, if_neg h6, if_neg h7, if_neg n89, if_neg h11, if_neg (show ¬ cC N = 10 by omega), if_pos h]] at pt
            refine ⟨_, rfl, rfl, _, rfl, iteN (fun z => by have z : cC N = 10 := V.int.inj z; omega) ⟨.ref q, rfl, _, rfl, q, _, _, _, rfl, rfl, SqL.of ow, gA, _, rfl, rfl, _, rfl, iteY (congrArg V.int h) ⟨_, _, rfl, ?_⟩⟩⟩
            exact ⟨⟨own, none, _, "go"⟩, kk, _, _, _, _, _, _, _, _, _, rfl, by omega, pt, ow, sG, l4, wo⟩
          · rw [show mst hd N own here = ⟨own, none, gI own (cA N), "call"⟩ from by unfold mst; rw [if_neg h2, if_neg h3, if_neg h4, if_neg h5, if_neg h6, if_neg h7, if_neg n89, if_neg h11, if_neg (show ¬ cC N = 10 by omega), if_neg (show ¬ cC N = 12 by omega), if_pos h]] at pt
            refine ⟨_, rfl, rfl, _, rfl, iteN (fun z => by have z : cC N = 10 := V.int.inj z; omega) ⟨.ref q, rfl, _, rfl, q, _, _, _, rfl, rfl, SqL.of ow, gA, _, rfl, rfl, _, rfl, iteN (fun z => by have z : cC N = 12 := V.int.inj z; omega) ⟨_, _, rfl, ?_⟩⟩⟩
            exact ⟨⟨own, none, _, "call"⟩, kk, _, _, _, _, _, _, _, _, _, rfl, by omega, pt, ow, sG, l4, wo⟩
        | false =>
        have n3 : ¬ (cC N = 10 ∨ cC N = 12 ∨ cC N = 13) := fun z => by rw [in3.mpr z] at hq3; cases hq3
        have n10 : cC N ≠ 10 := fun z => n3 (.inl z)
        have n12 : cC N ≠ 12 := fun z => n3 (.inr (.inl z))
        have n13 : cC N ≠ 13 := fun z => n3 (.inr (.inr z))
        refine iteF ?_
        refine ⟨_, rfl, (by show 4 ≤ sizeLine; decide), fun m2 hm2 => ⟨m2, _, rfl, .inl (SqL.of upd_same), rfl, rfl, _, rfl, ?_⟩⟩
        have sm2 : Same G1 (upd G1 m2 (.lst [.int 0, .int 1, .int 14, .int 15])) := Same.new hm2
        replace sG := sG.trans (Same.stp sm2)
        replace ow := sm2 _ _ ow
        generalize upd G1 m2 (.lst [.int 0, .int 1, .int 14, .int 15]) = G2 at sm2 sG ow ⊢
        show if inV (V.int (cC N)) [.int 0, .int 1, .int 14, .int 15] = true then _ else _
        cases hq4 : inV (V.int (cC N)) [.int 0, .int 1, .int 14, .int 15] with
        | false =>
          have n4 : ¬ (cC N = 0 ∨ cC N = 1 ∨ cC N = 14 ∨ cC N = 15) := fun z => by rw [in4.mpr z] at hq4; cases hq4
          rw [show mst hd N own here = ⟨own, none, (here + 1) % 65536, ""⟩ from by unfold mst; rw [if_neg h2, if_neg h3, if_neg h4, if_neg h5, if_neg h6, if_neg h7, if_neg n89, if_neg h11, if_neg n10, if_neg n12, if_neg n13, if_neg (fun z => n4 (.inl z)), if_neg (fun z => n4 (.inr (.inl z))), if_neg (fun z => n4 (.inr (.inr (.inl z)))), if_neg (fun z => n4 (.inr (.inr (.inr z))))]] at pt
          exact iteF ⟨⟨own, none, _, ""⟩, kk, _, _, _, _, _, _, _, _, _, rfl, by omega, pt, ow, sG, l4, wo⟩
        | true =>
          refine iteT ?_
          refine fun d hd' => ?_
          have sd : Same G2 (upd G2 d (.dK [])) := Same.new hd'
          have ow2 := sd _ _ ow
          refine ⟨.ref q, rfl, _, rfl, q, _, _, _, rfl, rfl, SqL.of ow2, gA, ?_⟩
          refine ⟨_, rfl, (wo _ (own_mem a0.1 a0.2)).log, _, _, rfl, rfl, out_len (wo _ (own_mem a0.1 a0.2)), ?_⟩
          refine ⟨upd_same, [(.inl 0, .str "fault"), (.inl 1, .str "halt"), (.inl 14, .str "back"), (.inl 15, .str (("out " : Str) ++ toString (gI own (cA N))))], rfl, (by show 4 ≤ 15; decide), ?_⟩
          have se : Same G2 (upd (upd G2 d (.dK [])) d (.dK (mergeK [] [(.inl 0, .str "fault"), (.inl 1, .str "halt"), (.inl 14, .str "back"), (.inl 15, .str (("out " : Str) ++ toString (gI own (cA N))))]))) := Same.put sd hd'
          have ed : (upd (upd G2 d (.dK [])) d (.dK (mergeK [] [(.inl 0, .str "fault"), (.inl 1, .str "halt"), (.inl 14, .str "back"), (.inl 15, .str (("out " : Str) ++ toString (gI own (cA N))))]))) d = some (.dK (mergeK [] [(.inl 0, .str "fault"), (.inl 1, .str "halt"), (.inl 14, .str "back"), (.inl 15, .str (("out " : Str) ++ toString (gI own (cA N))))])) := upd_same
          generalize upd (upd G2 d (.dK [])) d (.dK (mergeK [] [(.inl 0, .str "fault"), (.inl 1, .str "halt"), (.inl 14, .str "back"), (.inl 15, .str (("out " : Str) ++ toString (gI own (cA N))))])) = G3 at se ed ⊢
          replace sG := sG.trans (Same.stp se)
          replace ow := se _ _ ow
          rcases in4.mp hq4 with h | h | h | h
          · rw [show mst hd N own here = ⟨own, none, (here + 1) % 65536, "fault"⟩ from by unfold mst; rw [if_neg h2, if_neg h3, if_neg h4, if_neg h5, if_neg h6, if_neg h7, if_neg n89, if_neg h11, if_neg n10, if_neg n12, if_neg n13, if_pos h]] at pt
            refine ⟨_, rfl, d, .str ("fault"), rfl, ?_, ⟨own, none, _, "fault"⟩, kk, _, _, _, _, _, _, _, _, _, rfl, by omega, pt, ow, sG, l4, wo⟩
            show DGet G3 d (V.int (cC N)) _
            rw [h]
            exact DGet.k (k := .inl 0) ed
          · rw [show mst hd N own here = ⟨own, none, (here + 1) % 65536, "halt"⟩ from by unfold mst; rw [if_neg h2, if_neg h3, if_neg h4, if_neg h5, if_neg h6, if_neg h7, if_neg n89, if_neg h11, if_neg n10, if_neg n12, if_neg n13, if_neg (show ¬ cC N = 0 by omega), if_pos h]] at pt
            refine ⟨_, rfl, d, .str ("halt"), rfl, ?_, ⟨own, none, _, "halt"⟩, kk, _, _, _, _, _, _, _, _, _, rfl, by omega, pt, ow, sG, l4, wo⟩
            show DGet G3 d (V.int (cC N)) _
            rw [h]
            exact DGet.k (k := .inl 1) ed
          · rw [show mst hd N own here = ⟨own, none, (here + 1) % 65536, "back"⟩ from by unfold mst; rw [if_neg h2, if_neg h3, if_neg h4, if_neg h5, if_neg h6, if_neg h7, if_neg n89, if_neg h11, if_neg n10, if_neg n12, if_neg n13, if_neg (show ¬ cC N = 0 by omega), if_neg (show ¬ cC N = 1 by omega), if_pos h]] at pt
            refine ⟨_, rfl, d, .str ("back"), rfl, ?_, ⟨own, none, _, "back"⟩, kk, _, _, _, _, _, _, _, _, _, rfl, by omega, pt, ow, sG, l4, wo⟩
            show DGet G3 d (V.int (cC N)) _
            rw [h]
            exact DGet.k (k := .inl 14) ed
          · rw [show mst hd N own here = ⟨own, none, (here + 1) % 65536, ("out " : Str) ++ toString (gI own (cA N))⟩ from by unfold mst; rw [if_neg h2, if_neg h3, if_neg h4, if_neg h5, if_neg h6, if_neg h7, if_neg n89, if_neg h11, if_neg n10, if_neg n12, if_neg n13, if_neg (show ¬ cC N = 0 by omega), if_neg (show ¬ cC N = 1 by omega), if_neg (show ¬ cC N = 14 by omega), if_pos h]] at pt
            refine ⟨_, rfl, d, .str (("out " : Str) ++ toString (gI own (cA N))), rfl, ?_, ⟨own, none, _, ("out " : Str) ++ toString (gI own (cA N))⟩, kk, _, _, _, _, _, _, _, _, _, rfl, by omega, pt, ow, sG, l4, wo⟩
            show DGet G3 d (V.int (cC N)) _
            rw [h]
            exact DGet.k (k := .inl 15) ed
    · rintro σ G ⟨S, kk, y7, y8, y9, y10, y11, y12, y13, y14, y15, rfl, hk, pt, ow, sG, l4, wo⟩
      obtain rfl : kk = 0 := by omega
      cases pt
      exact ⟨_, rfl, _, rfl, _, rfl, (by show 3 ≤ sizeLine; decide), fun p hp => ret G sG ow l4 wo p hp⟩
end

/-! ### cells, as plain functions -/
def cds : List Str := ["fault", "halt", "high", "low", "add", "take", "load", "store", "jump", "ifzero", "call", "near", "jumpby", "callby", "back", "out"]
theorem cds_first {j : Nat} {u : Str} (h : cds[j]? = some u) : ∀ m, m < j → cds[m]? ≠ some u := by
  have hj : j < 16 := (List.getElem?_eq_some_iff.mp h).1
  have all : ∀ j < 16, ∀ m < j, cds[m]? ≠ cds[j]? := by decide +kernel
  intro m hm e
  exact all j hj m hm (e.trans h.symm)
theorem cds_in {j : Nat} {u : Str} (h : cds[j]? = some u) : inV (.str u) (cds.map V.str) = true := by
  have hm := List.mem_of_getElem? h
  have all : ∀ u ∈ cds, inV (.str u) (cds.map V.str) = true := by decide +kernel
  exact all u hm
/-- the word of an instruction cell -/
def dg (c a b d : Int) : Int := ((c * 4 + a) * 4 + b) * 256 + d
def pL (g : Int) : Int := g - g / 256 * 256
def pU (g : Int) : Int := g / 256 + if pL g > 127 then 1 else 0
def pH (g : Int) : Int := pU g - pU g / 256 * 256
def led (l g : Int) : List Int := [dg 2 3 0 (pH g), dg 3 3 0 (pL g), dg l 3 0 0]
def regN : V → Int
  | .str z => if z = "r0" then 0 else if z = "r1" then 1 else 2
  | _ => 0
/-- a cell with a field put in -/
def plc (c : Int) (f : Str) (g : Int) : Int := if f = "whole" then g else if f = "high" then c / 256 * 256 + pH g else c / 256 * 256 + pL g
theorem hi_eq (g : Int) : (g + 128) / 256 % 256 = pH g := by
  unfold pH pU pL
  split <;> omega
theorem lo_eq (g : Int) : (g - 256 * ((g + 128) / 256)) % 256 = pL g := by
  unfold pL
  omega
theorem dg_eq (c a b d : Int) : c * 4096 + a * 1024 + b * 256 + d = dg c a b d := by
  unfold dg
  omega
theorem wp_eq {c a b d : Int} : dg c a b 0 / 256 * 256 + d = dg c a b d := by
  unfold dg
  omega
theorem pH_0 (g : Int) : 0 ≤ pH g ∧ pH g ≤ 255 := by
  unfold pH
  omega
theorem pL_0 (g : Int) : 0 ≤ pL g ∧ pL g ≤ 255 := by
  unfold pL
  omega
theorem regN_0 {r : V} (h : r ∈ regs) : 0 ≤ regN r ∧ regN r ≤ 3 := by
  have all : ∀ r ∈ regs, 0 ≤ regN r ∧ regN r ≤ 3 := by decide +kernel
  exact all r h
section
variable {P : Program} {w : World} {K : PySem.W.Frag} {mg : Str → Option Value} {base : Heap} {Z : Fs}
def sp_with_part : Sp := fun vs H Q _ => ∃ c p : Int, vs = [.int c, .int p] ∧ Q (.int (c / 256 * 256 + p)) H
theorem ok_with_part (T : Txt K w mg Z) : FnOk P w K mg base CX0 1 Z.a_with_part Z.d_with_part ["cell", "part"] sp_with_part := by
  refine T.F_with_part.ok sc_with_part (fun vs H Q E h => ?_) (fun cdv A outer s H vs Q E hr h => ?_)
  · obtain ⟨c, p, rfl, _⟩ := h
    rfl
  · obtain ⟨c, p, rfl, k⟩ := h
    exact ⟨_, (pss_one (ps_ret (pe_op op_add (pe_op op_mul (pe_op op_fdiv (pv 0) pe_int) pe_int) (pv 1)))), .int c, rfl, _, _, rfl, rfl, ⟨by decide, by decide⟩, _, _, rfl, rfl, .inr ⟨by decide, by decide⟩, .int p, rfl, _, _, rfl, rfl, k⟩
def sp_high_half : Sp := fun vs H Q _ => ∃ g : Int, vs = [.int g] ∧ Q (.int (pH g)) H
theorem ok_high_half (T : Txt K w mg Z) : FnOk P w K mg base CX0 1 Z.a_high_half Z.d_high_half ["address"] sp_high_half := by
  refine T.F_high_half.ok sc_high_half (fun vs H Q E h => ?_) (fun cdv A outer s H vs Q E hr h => ?_)
  · obtain ⟨g, rfl, _⟩ := h
    rfl
  · obtain ⟨g, rfl, k⟩ := h
    refine ⟨_, (pss_one (ps_ret (pe_op op_mod (pe_op op_fdiv (pe_op op_add (pv 0) pe_int) pe_int) pe_int))), .int g, rfl, _, _, rfl, rfl, _, _, rfl, rfl, ⟨by decide, by decide⟩, _, _, rfl, rfl, (by show (0 : Int) < 256; decide), ?_⟩
    show Q (.int ((g + 128) / 256 % 256)) H
    rw [hi_eq]
    exact k
def sp_low_half : Sp := fun vs H Q _ => ∃ g : Int, vs = [.int g] ∧ Q (.int (g - 256 * ((g + 128) / 256))) H
theorem ok_low_half (T : Txt K w mg Z) : FnOk P w K mg base CX0 1 Z.a_low_half Z.d_low_half ["address"] sp_low_half := by
  refine T.F_low_half.ok sc_low_half (fun vs H Q E h => ?_) (fun cdv A outer s H vs Q E hr h => ?_)
  · obtain ⟨g, rfl, _⟩ := h
    rfl
  · obtain ⟨g, rfl, k⟩ := h
    exact ⟨_, (pss_one (ps_ret (pe_op op_sub (pv 0) (pe_op op_mul pe_int (pe_op op_fdiv (pe_op op_add (pv 0) pe_int) pe_int))))), .int g, rfl, .int g, rfl, _, _, rfl, rfl, _, _, rfl, rfl, ⟨by decide, by decide⟩, _, _, rfl, rfl, .inl ⟨by decide, by decide⟩, _, _, rfl, rfl, k⟩
def sp_unsigned : Sp := fun vs H Q _ => ∃ g : Int, vs = [.int g] ∧ Q (.int (g % 256)) H
theorem ok_unsigned (T : Txt K w mg Z) : FnOk P w K mg base CX0 1 Z.a_unsigned Z.d_unsigned ["value"] sp_unsigned := by
  refine T.F_unsigned.ok sc_unsigned (fun vs H Q E h => ?_) (fun cdv A outer s H vs Q E hr h => ?_)
  · obtain ⟨g, rfl, _⟩ := h
    rfl
  · obtain ⟨g, rfl, k⟩ := h
    exact ⟨_, (pss_one (ps_ret (pe_op op_mod (pv 0) pe_int))), .int g, rfl, _, _, rfl, rfl, (by show (0 : Int) < 256; decide), k⟩
def sp_placed : Sp := fun vs H Q _ => ∃ (c g : Int) (f : Str), vs = [.int c, .str f, .int g] ∧ Q (.int (plc c f g)) H
theorem ok_placed (T : Txt K w mg Z) : FnOk P w K mg base CX0 2 Z.a_placed Z.d_placed ["cell", "field", "address"] sp_placed := by
  have G_with_part : FnOk P w K mg base CX0 1 Z.a_with_part Z.d_with_part ["cell", "part"] sp_with_part := ok_with_part T
  have G_high_half : FnOk P w K mg base CX0 1 Z.a_high_half Z.d_high_half ["address"] sp_high_half := ok_high_half T
  have G_low_half : FnOk P w K mg base CX0 1 Z.a_low_half Z.d_low_half ["address"] sp_low_half := ok_low_half T
  have G_unsigned : FnOk P w K mg base CX0 1 Z.a_unsigned Z.d_unsigned ["value"] sp_unsigned := ok_unsigned T
  refine T.F_placed.ok sc_placed (fun vs H Q E h => ?_) (fun cdv A outer s H vs Q E hr h => ?_)
  · obtain ⟨c, g, f, rfl, _⟩ := h
    rfl
  · obtain ⟨c, g, f, rfl, k⟩ := h
    refine ⟨_, (pss_cons (ps_if (pt_cmpR op_eq (pv 1) pe_str (nomark _)) (pss_one (ps_ret (pv 2))) pss_nil)
      (pss_cons (ps_if (pt_cmpR op_eq (pv 1) pe_str (nomark _)) (pss_one (ps_ret (pe_call G_with_part (hr.mono (by omega)) (by rfl) T.m_with_part T.F_with_part.kp T.b_with_part .nil pass0 (pa_cons (pv 0) (pa_cons (pe_call G_high_half (hr.mono (by omega)) (by rfl) T.m_high_half T.F_high_half.kp T.b_high_half .nil pass0 (pa_cons (pv 2) pa_nil)) pa_nil))))) pss_nil)
      (pss_one (ps_ret (pe_call G_with_part (hr.mono (by omega)) (by rfl) T.m_with_part T.F_with_part.kp T.b_with_part .nil pass0 (pa_cons (pv 0) (pa_cons (pe_call G_unsigned (hr.mono (by omega)) (by rfl) T.m_unsigned T.F_unsigned.kp T.b_unsigned .nil pass0 (pa_cons (pe_call G_low_half (hr.mono (by omega)) (by rfl) T.m_low_half T.F_low_half.kp T.b_low_half .nil pass0 (pa_cons (pv 2) pa_nil)) pa_nil)) pa_nil))))))), ?_⟩
    refine ⟨.str f, rfl, rfl, _, rfl, ite2 (fun h1 => ?_) (fun h1 => ?_)⟩
    · have e : plc c f g = g := if_pos (V.str.inj (of_decide_eq_true h1))
      rw [e] at k
      exact ⟨.int g, rfl, k⟩
    have e1 : f ≠ "whole" := fun e => h1 (decide_eq_true (by rw [e]))
    refine ⟨.str f, rfl, rfl, _, rfl, ite2 (fun h2 => ?_) (fun h2 => ?_)⟩
    · have e : plc c f g = c / 256 * 256 + pH g := (if_neg e1).trans (if_pos (V.str.inj (of_decide_eq_true h2)))
      rw [e] at k
      exact ⟨.int c, rfl, .int g, rfl, g, rfl, c, _, rfl, k⟩
    · have e2 : f ≠ "high" := fun e => h2 (decide_eq_true (by rw [e]))
      have e : plc c f g = c / 256 * 256 + pL g := (if_neg e1).trans (if_neg e2)
      rw [e, ← lo_eq] at k
      exact ⟨.int c, rfl, .int g, rfl, g, rfl, _, rfl, c, _, rfl, k⟩
/-! ### cell_of -/
def sp_cell_of : Sp := fun vs H Q _ => ∃ (j : Nat) (u : Str) (r s p : Int), vs = [.str u, .int r, .int s, .int p] ∧ cds[j]? = some u ∧ (0 ≤ r ∧ r ≤ 3) ∧ (0 ≤ s ∧ s ≤ 3) ∧ (0 ≤ p ∧ p ≤ 255) ∧ ∀ H' : Hp, Same H H' → Q (.int (dg j r s p)) H'
theorem ok_cell_of (T : Txt K w mg Z) : FnOk P w K mg base CX0 2 Z.a_cell_of Z.d_cell_of ["word", "r", "s", "part"] sp_cell_of := by
  have G_is_number : FnOk P w K mg base CX0 1 Z.a_is_number Z.d_is_number ["value", "least", "most"] (sp_is_number K) := ok_is_number T
  refine T.F_cell_of.ok sc_cell_of (fun vs H Q E h => ?_) (fun cdv A outer s H vs Q E hr h => ?_)
  · obtain ⟨j, u, r, s, p, rfl, _⟩ := h
    rfl
  · obtain ⟨j, u, r, s', p, rfl, hj, hr', hs, hp, k⟩ := h
    refine ⟨_, PSs.nox (pss_cons (ps_if (PW.pt (pw_or (pt_not (pt_val (pe_callB call_isi (by rfl) T.n_isinstance boot_isinstance (pa_cons (pv 0) (pa_cons (pe_bltn (v := .ty "str") (by rfl) T.n_str boot_str rfl) pa_nil))))) (pw_or1 (pt_cmpR op_notIn_seq (pv 0) (pe_glob (v := .ref Z.c_CODES) (by rfl) T.g_CODES rfl) (by rfl))))) (pss_one ps_never) pss_nil)
      (pss_cons (ps_for PassesOwn.never rfl (pi_tup (pe_tup (pa_cons (pe_tup (pa_cons (pv 1) (pa_cons pe_int pa_nil))) (pa_cons (pe_tup (pa_cons (pv 2) (pa_cons pe_int pa_nil))) (pa_cons (pe_tup (pa_cons (pv 3) (pa_cons pe_int pa_nil))) pa_nil))))) (pg_tup (by rfl) (pgs_cons (pg_name (i := 4) sc_cell_of.nd rfl (Or.inl rfl)) (pgs_cons (pg_name (i := 5) sc_cell_of.nd rfl (Or.inl rfl)) pgs_nil))) (pss_one (ps_if (pt_not (pt_val (pe_call G_is_number (hr.mono (by omega)) (by rfl) T.m_is_number T.F_is_number.kp T.b_is_number .nil pass0 (pa_cons (pv 4) (pa_cons pe_int (pa_cons (pv 5) pa_nil)))))) (pss_one ps_never) pss_nil)))
      (pss_one (ps_ret (pe_op op_add (pe_op op_add (pe_op op_add (pe_op op_mul (pe_bm PySem.F.plainAttrs_tuple PySem.F.slot_tuple_index PySem.F.type_tuple_index mt_tup_index (pe_glob (v := .ref Z.c_CODES) (by rfl) T.g_CODES rfl) (pa_cons (pv 0) pa_nil)) pe_int) (pe_op op_mul (pv 1) pe_int)) (pe_op op_mul (pv 2) pe_int)) (pv 3)))))), ?_⟩
    refine ⟨.str u, rfl, .str u, .ty "str", _, _, true, rfl, .ty _, .base (.str u), kit_ty (by decide +kernel), _, rfl, iteF ?_⟩
    refine ⟨.str u, rfl, _, cds.map V.str, rfl, .inr (T.v_CODES H), rfl, rfl, _, rfl, ?_⟩
    rw [cds_in hj]
    refine iteF ?_
    refine ⟨_, rfl, (by show 2 ≤ sizeLine; decide), fun p1 h1 => ?_⟩
    have s1 : Same H (upd H p1 (.tup [V.int r, V.int 3])) := Same.new h1
    have e1 : (upd H p1 (.tup [V.int r, V.int 3])) p1 = some (.tup [V.int r, V.int 3]) := upd_same
    generalize upd H p1 (.tup [V.int r, V.int 3]) = H1 at s1 e1 ⊢
    refine ⟨_, rfl, (by show 2 ≤ sizeLine; decide), fun p2 h2 => ?_⟩
    have s2 : Same H1 (upd H1 p2 (.tup [V.int s', V.int 3])) := Same.new h2
    have e2 : (upd H1 p2 (.tup [V.int s', V.int 3])) p2 = some (.tup [V.int s', V.int 3]) := upd_same
    generalize upd H1 p2 (.tup [V.int s', V.int 3]) = H2 at s2 e2 ⊢
    refine ⟨_, rfl, (by show 2 ≤ sizeLine; decide), fun p3 h3 => ?_⟩
    have s3 : Same H2 (upd H2 p3 (.tup [V.int p, V.int 255])) := Same.new h3
    have e3 : (upd H2 p3 (.tup [V.int p, V.int 255])) p3 = some (.tup [V.int p, V.int 255]) := upd_same
    generalize upd H2 p3 (.tup [V.int p, V.int 255]) = H3 at s3 e3 ⊢
    refine ⟨(by show 3 ≤ sizeLine; decide), fun q hq => ?_⟩
    have s4 : Same H3 (upd H3 q (.tup [V.ref p1, V.ref p2, V.ref p3])) := Same.new hq
    have e4 : (upd H3 q (.tup [V.ref p1, V.ref p2, V.ref p3])) q = some (.tup [V.ref p1, V.ref p2, V.ref p3]) := upd_same
    generalize upd H3 q (.tup [V.ref p1, V.ref p2, V.ref p3]) = H4 at s4 e4 ⊢
    have t2 := s3.trans s4
    have t1 := s2.trans t2
    replace e1 := t1 _ _ e1
    replace e2 := t2 _ _ e2
    replace e3 := s4 _ _ e3
    have tt := s1.trans t1
    have each : ∀ x ∈ [V.ref p1, V.ref p2, V.ref p3], ∃ (a : Addr) (i m : Int), x = .ref a ∧ H4 a = some (.tup [.int i, .int m]) ∧ 0 ≤ i ∧ i ≤ m :=
      memc ⟨_, _, _, rfl, e1, hr'.1, hr'.2⟩ (memc ⟨_, _, _, rfl, e2, hs.1, hs.2⟩ (mem1 ⟨_, _, _, rfl, e3, hp.1, hp.2⟩))
    refine ⟨q, rfl, ⟨_, SqT.of e4⟩, for_tup (K := K) (a := q) (xs := [V.ref p1, V.ref p2, V.ref p3]) (fun _ σ H' => ∃ (y4 y5 : Option V), σ = [some (.str u), some (.int r), some (.int s'), some (.int p), y4, y5] ∧ Same H4 H')
      ⟨_, _, rfl, Same.refl _⟩ (fun _ σ H' _ ⟨_, _, _, s'⟩ => SqT.of (s' _ _ e4)) ?_ ?_⟩
    · rintro i x σ G hx ⟨y4, y5, rfl, sG⟩
      obtain ⟨a, v, m, rfl, ea, v0, v1⟩ := each x (List.mem_of_getElem? hx)
      refine ⟨a, _, rfl, SqT.of (sG _ _ ea), rfl, .int v, [.int m], rfl, .int m, [], rfl, rfl, ?_⟩
      refine ⟨.int v, rfl, .int m, rfl, .int v, 0, m, a, 0, rfl, .int, fun G1 s1 => ⟨_, rfl, ?_⟩⟩
      have e : numV (.int v) 0 m = true := by simp [numV, v0, v1]
      rw [e]
      exact iteF ⟨_, _, rfl, sG.trans s1⟩
    · rintro σ G ⟨y4, y5, rfl, sG⟩
      refine ⟨.inr (.inl ⟨rfl, T.L_CODES⟩), .str u, rfl, Z.c_CODES, cds, u, j, rfl, rfl, T.v_CODES G, hj, cds_first hj, ?_⟩
      refine ⟨_, _, rfl, rfl, .inr ⟨by decide, by decide⟩, .int r, rfl, _, _, rfl, rfl, .inr ⟨by decide, by decide⟩, _, _, rfl, rfl, .int s', rfl, _, _, rfl, rfl, .inr ⟨by decide, by decide⟩, _, _, rfl, rfl, .int p, rfl, _, _, rfl, rfl, ?_⟩
      show Q (.int ((j : Int) * 4096 + r * 1024 + s' * 256 + p)) G
      rw [dg_eq]
      exact k _ (tt.trans sG)
/-! ### _number, _first_number, _half_cells -/
def sp_number_of : Sp := fun vs H Q _ => ∃ r : V, vs = [r] ∧ r ∈ regs ∧ Q (.int (regN r)) H
theorem ok_number (T : Txt K w mg Z) : FnOk P w K mg base CX0 1 Z.a_number Z.d_number ["name"] sp_number_of := by
  refine T.F_number.ok sc_number (fun vs H Q E h => ?_) (fun cdv A outer s H vs Q E hr h => ?_)
  · obtain ⟨r, rfl, _⟩ := h
    rfl
  · obtain ⟨r, rfl, hr', k⟩ := h
    refine ⟨_, (pss_one (ps_ret (pe_bm PySem.F.plainAttrs_tuple PySem.F.slot_tuple_index PySem.F.type_tuple_index mt_tup_index (pe_glob (v := .ref Z.c_REGISTERS) (by rfl) T.g_REGISTERS rfl) (pa_cons (pv 0) pa_nil)))), ?_⟩
    obtain ⟨z, j, rfl, hj, hm, hn⟩ : ∃ (z : Str) (j : Nat), r = .str z ∧ (["r0", "r1", "r2"] : List Str)[j]? = some z ∧ (∀ m, m < j → (["r0", "r1", "r2"] : List Str)[m]? ≠ some z) ∧ regN r = (j : Int) := by
      simp only [regs, List.mem_cons, List.not_mem_nil, or_false] at hr'
      rcases hr' with rfl | rfl | rfl
      · exact ⟨_, 0, rfl, rfl, fun m h => absurd h (by omega), by decide +kernel⟩
      · exact ⟨_, 1, rfl, rfl, fun m h => by obtain rfl : m = 0 := (by omega); decide +kernel, by decide +kernel⟩
      · refine ⟨_, 2, rfl, rfl, fun m h => ?_, by decide +kernel⟩
        match m, h with
        | 0, _ => decide +kernel
        | 1, _ => decide +kernel
    rw [hn] at k
    exact ⟨.inr (.inl ⟨rfl, T.L_REGISTERS⟩), .str z, rfl, Z.c_REGISTERS, ["r0", "r1", "r2"], z, j, rfl, rfl, T.v_REGISTERS H, hj, hm, k⟩
def sp_half_cells : Sp := fun vs H Q _ => ∃ r g : Int, vs = [.int r, .int g] ∧ 0 ≤ r ∧ r ≤ 3 ∧ ∀ (H' : Hp) (p : Addr), Same H H' → H p = none → H' p = some (.lst [.int (dg 2 r 0 (pH g)), .int (dg 3 r 0 (pL g))]) → Q (.ref p) H'
theorem plc_h (r g : Int) : plc (dg (2 : Nat) r 0 0) "high" g = dg 2 r 0 (pH g) := by
  unfold plc
  rw [if_neg (by decide +kernel), if_pos rfl, wp_eq]
  rfl
theorem plc_l (r g : Int) : plc (dg (3 : Nat) r 0 0) "low" g = dg 3 r 0 (pL g) := by
  unfold plc
  rw [if_neg (by decide +kernel), if_neg (by decide +kernel), wp_eq]
  rfl
theorem ok_half_cells (T : Txt K w mg Z) : FnOk P w K mg base CX0 3 Z.a_half_cells Z.d_half_cells ["r", "address"] sp_half_cells := by
  have G_cell_of : FnOk P w K mg base CX0 2 Z.a_cell_of Z.d_cell_of ["word", "r", "s", "part"] sp_cell_of := ok_cell_of T
  have G_placed : FnOk P w K mg base CX0 2 Z.a_placed Z.d_placed ["cell", "field", "address"] sp_placed := ok_placed T
  refine T.F_half_cells.ok sc_half_cells (fun vs H Q E h => ?_) (fun cdv A outer s H vs Q E hr h => ?_)
  · obtain ⟨r, g, rfl, _⟩ := h
    rfl
  · obtain ⟨r, g, rfl, r0, r1, k⟩ := h
    refine ⟨_, (pss_cons (ps_set (i := 2) sc_half_cells.nd rfl (Or.inl rfl) (pe_call G_placed (hr.mono (by omega)) (by rfl) T.m_placed T.F_placed.kp T.b_placed .nil pass0 (pa_cons (pe_call G_cell_of (hr.mono (by omega)) (by rfl) T.m_cell_of T.F_cell_of.kp (Classical.choose_spec T.d_cell_of_2).2 (Classical.choose_spec T.d_cell_of_2).1 pass0 (pa_cons pe_str (pa_cons (pv 0) pa_nil))) (pa_cons pe_str (pa_cons (pv 1) pa_nil)))))
      (pss_one (ps_ret (pe_lst (pa_cons (pv 2) (pa_cons (pe_call G_placed (hr.mono (by omega)) (by rfl) T.m_placed T.F_placed.kp T.b_placed .nil pass0 (pa_cons (pe_call G_cell_of (hr.mono (by omega)) (by rfl) T.m_cell_of T.F_cell_of.kp (Classical.choose_spec T.d_cell_of_2).2 (Classical.choose_spec T.d_cell_of_2).1 pass0 (pa_cons pe_str (pa_cons (pv 0) pa_nil))) (pa_cons pe_str (pa_cons (pv 1) pa_nil)))) pa_nil)))))), ?_⟩
    refine ⟨.int r, rfl, 2, "high", r, 0, 0, rfl, rfl, ⟨r0, r1⟩, (by decide), (by decide), fun H1 s1 => ⟨.int g, rfl, _, g, _, rfl, ?_⟩⟩
    rw [plc_h]
    refine ⟨_, rfl, .int r, rfl, 3, "low", r, 0, 0, rfl, rfl, ⟨r0, r1⟩, (by decide), (by decide), fun H2 s2 => ⟨.int g, rfl, _, g, _, rfl, ?_⟩⟩
    rw [plc_l]
    refine ⟨(by show 2 ≤ sizeLine; decide), fun p hp => ?_⟩
    exact k _ p ((s1.trans s2).trans (Same.new hp)) ((s1.trans s2).free hp) upd_same
/-! ### stub_cells -/
def sp_stub_cells : Sp := fun vs H Q _ => ∃ g : Int, vs = [.int g] ∧ ∀ (H' : Hp) (p : Addr), Same H H' → H p = none → H' p = some (.lst [.int (dg 2 3 0 (pH g)), .int (dg 3 3 0 (pL g)), .int (dg 6 3 3 0), .int (dg 12 3 0 0)]) → Q (.ref p) H'
theorem ok_stub_cells (T : Txt K w mg Z) : FnOk P w K mg base CX0 4 Z.a_stub_cells Z.d_stub_cells ["slot"] sp_stub_cells := by
  have G_cell_of : FnOk P w K mg base CX0 2 Z.a_cell_of Z.d_cell_of ["word", "r", "s", "part"] sp_cell_of := ok_cell_of T
  have G_half_cells : FnOk P w K mg base CX0 3 Z.a_half_cells Z.d_half_cells ["r", "address"] sp_half_cells := ok_half_cells T
  refine T.F_stub_cells.ok sc_stub_cells (fun vs H Q E h => ?_) (fun cdv A outer s H vs Q E hr h => ?_)
  · obtain ⟨g, rfl, _⟩ := h
    rfl
  · obtain ⟨g, rfl, k⟩ := h
    refine ⟨_, (pss_cons (ps_set (i := 1) sc_stub_cells.nd rfl (Or.inl rfl) (pe_call G_cell_of (hr.mono (by omega)) (by rfl) T.m_cell_of T.F_cell_of.kp (Classical.choose_spec T.d_cell_of_3).2 (Classical.choose_spec T.d_cell_of_3).1 pass0 (pa_cons pe_str (pa_cons (pe_glob (v := .int 3) (by rfl) (Classical.choose_spec T.g_HIDDEN) ⟨_, rfl⟩) (pa_cons (pe_glob (v := .int 3) (by rfl) (Classical.choose_spec T.g_HIDDEN) ⟨_, rfl⟩) pa_nil)))))
      (pss_one (ps_ret (pe_op op_cat (pe_call G_half_cells (hr.mono (by omega)) (by rfl) T.m_half_cells T.F_half_cells.kp T.b_half_cells .nil pass0 (pa_cons (pe_glob (v := .int 3) (by rfl) (Classical.choose_spec T.g_HIDDEN) ⟨_, rfl⟩) (pa_cons (pv 0) pa_nil))) (pe_lst (pa_cons (pv 1) (pa_cons (pe_call G_cell_of (hr.mono (by omega)) (by rfl) T.m_cell_of T.F_cell_of.kp (Classical.choose_spec T.d_cell_of_2).2 (Classical.choose_spec T.d_cell_of_2).1 pass0 (pa_cons pe_str (pa_cons (pe_glob (v := .int 3) (by rfl) (Classical.choose_spec T.g_HIDDEN) ⟨_, rfl⟩) pa_nil))) pa_nil))))))), ?_⟩
    refine ⟨6, "load", 3, 3, 0, rfl, rfl, (by decide), (by decide), (by decide), fun H1 s1 => ?_⟩
    refine ⟨.int g, rfl, 3, g, rfl, by decide, by decide, fun H2 p s2 hp ep => ?_⟩
    refine ⟨_, rfl, 12, "jumpby", 3, 0, 0, rfl, rfl, (by decide), (by decide), (by decide), fun H3 s3 => ?_⟩
    replace ep := s3 _ _ ep
    refine ⟨(by show 2 ≤ sizeLine; decide), fun q hq => ?_⟩
    refine ⟨p, q, _, _, rfl, rfl, (Same.new hq) _ _ ep, upd_same, (by show 2 + 2 ≤ sizeLine; decide), fun c hc => ?_⟩
    have t := ((s1.trans s2).trans s3).trans (Same.new (o := .lst [.int (dg 6 3 3 0), .int (dg 12 3 0 0)]) hq)
    exact k _ c (t.trans (Same.new hc)) (t.free hc) upd_same
end

def AnyRow (ts : List Str) (xs : List V) : Prop := CRow ts xs ∨ DRow ts xs

/-! ### the cells of rows -/
def aw (pl go : Int) : Int := (go - pl) % 256
inductive One : List V → Int → Prop where
  | add {r s : V} (hr : r ∈ regs) (hs : s ∈ regs) : One [.str "add", r, s] (dg 4 (regN r) (regN s) 0)
  | take {r s : V} (hr : r ∈ regs) (hs : s ∈ regs) : One [.str "take", r, s] (dg 5 (regN r) (regN s) 0)
  | load {r s : V} {d : Int} (hr : r ∈ regs) (hs : s ∈ regs) (h0 : 0 ≤ d) (h1 : d ≤ 15) : One [.str "load", r, s, .int d] (dg 6 (regN r) (regN s) d)
  | store {r s : V} {d : Int} (hr : r ∈ regs) (hs : s ∈ regs) (h0 : 0 ≤ d) (h1 : d ≤ 15) : One [.str "store", r, s, .int d] (dg 7 (regN r) (regN s) d)
  | callby {r : V} (hr : r ∈ regs) : One [.str "callby", r] (dg 13 (regN r) 0 0)
  | out {r : V} (hr : r ∈ regs) : One [.str "out", r] (dg 15 (regN r) 0 0)
  | back : One [.str "back"] (dg 14 0 0 0)
  | halt : One [.str "halt"] (dg 1 0 0 0)
inductive Lng (ts : List Str) (go : Int) : List V → List Int → Prop where
  | name {r : V} {t : Str} (hr : r ∈ regs) (ht : t ∈ ts) : Lng ts go [.str "name", r, .str t] [dg 2 (regN r) 0 (pH go), dg 3 (regN r) 0 (pL go)]
  | jump {t : Str} (ht : t ∈ ts) : Lng ts go [.str "jump", .str t] (led 12 go)
  | call {t : Str} (ht : t ∈ ts) : Lng ts go [.str "call", .str t] (led 13 go)
  | ifzero {r : V} {t : Str} (hr : r ∈ regs) (ht : t ∈ ts) : Lng ts go [.str "ifzero", r, .str t] ([dg 9 (regN r) 0 2, dg 8 0 0 4] ++ led 12 go)
inductive Sht (ts : List Str) : List V → Int → Int → Prop where
  | name {r : V} {t : Str} (hr : r ∈ regs) (ht : t ∈ ts) : Sht ts [.str "name", r, .str t] 11 (regN r)
  | jump {t : Str} (ht : t ∈ ts) : Sht ts [.str "jump", .str t] 8 0
  | call {t : Str} (ht : t ∈ ts) : Sht ts [.str "call", .str t] 10 0
  | ifzero {r : V} {t : Str} (hr : r ∈ regs) (ht : t ∈ ts) : Sht ts [.str "ifzero", r, .str t] 9 (regN r)
inductive Cel (ts : List Str) (pl go : Int) : Bool → List V → List Int → Prop where
  | room {far : Bool} {k : Int} (h0 : 1 ≤ k) (h1 : k ≤ 120) : Cel ts pl go far [.str "room", .int k] (List.replicate k.toNat 0)
  | word {far : Bool} {n : Int} : Cel ts pl go far [.str "word", .int n] [n]
  | address {far : Bool} {t : Str} (ht : t ∈ ts) : Cel ts pl go far [.str "address", .str t] [go]
  | put {far : Bool} {r : V} {n : Int} (hr : r ∈ regs) : Cel ts pl go far [.str "put", r, .int n] [dg 2 (regN r) 0 (pH n), dg 3 (regN r) 0 (pL n)]
  | one {far : Bool} {xs : List V} {c : Int} (h : One xs c) : Cel ts pl go far xs [c]
  | lng {xs : List V} {cs : List Int} (h : Lng ts go xs cs) : Cel ts pl go true xs cs
  | sht {xs : List V} {j n : Int} (h : Sht ts xs j n) : Cel ts pl go false xs [dg j n 0 (aw pl go)]
theorem Cel.all {ts : List Str} {xs : List V} (pl go : Int) (far : Bool) (h : AnyRow ts xs) : ∃ cs, Cel ts pl go far xs cs := by
  rcases h with h | h
  · cases h with
    | put hr => exact ⟨_, .put hr⟩
    | name hr ht =>
      cases far with
      | true => exact ⟨_, .lng (.name hr ht)⟩
      | false => exact ⟨_, .sht (.name hr ht)⟩
    | ifzero hr ht =>
      cases far with
      | true => exact ⟨_, .lng (.ifzero hr ht)⟩
      | false => exact ⟨_, .sht (.ifzero hr ht)⟩
    | add hr hs => exact ⟨_, .one (.add hr hs)⟩
    | take hr hs => exact ⟨_, .one (.take hr hs)⟩
    | load hr hs h0 h1 => exact ⟨_, .one (.load hr hs h0 h1)⟩
    | store hr hs h0 h1 => exact ⟨_, .one (.store hr hs h0 h1)⟩
    | jump ht =>
      cases far with
      | true => exact ⟨_, .lng (.jump ht)⟩
      | false => exact ⟨_, .sht (.jump ht)⟩
    | call ht =>
      cases far with
      | true => exact ⟨_, .lng (.call ht)⟩
      | false => exact ⟨_, .sht (.call ht)⟩
    | callby hr => exact ⟨_, .one (.callby hr)⟩
    | out hr => exact ⟨_, .one (.out hr)⟩
    | back => exact ⟨_, .one .back⟩
    | halt => exact ⟨_, .one .halt⟩
    | room h0 h1 => exact ⟨_, .room h0 h1⟩
  · cases h with
    | word => exact ⟨_, .word⟩
    | address ht => exact ⟨_, .address ht⟩
    | room h0 h1 => exact ⟨_, .room h0 h1⟩
theorem flat_rep (n : Nat) : (List.replicate n [V.int 0]).flatten = (List.replicate n (0 : Int)).map V.int := by
  induction n with
  | zero => rfl
  | succ n ih =>
    rw [List.replicate_succ, List.flatten_cons, ih, List.replicate_succ, List.map_cons]
    rfl
theorem relO_v {α : Type} {R : α → Value → Prop} {v : Option α} {r : Option Value} (h : RelOpt R v r) : r.isSome = v.isSome ∧ ∀ i, v = some i → ∃ u, r = some u ∧ R i u := by
  cases v with
  | none =>
    cases r with
    | none => exact ⟨rfl, fun i e => nomatch e⟩
    | some u => exact h.elim
  | some i =>
    cases r with
    | none => exact h.elim
    | some u => exact ⟨rfl, fun j e => by cases e; exact ⟨u, rfl, h⟩⟩
theorem reg_in {r : V} (h : r ∈ regs) : inV r regs = true ∧ flatV r = true := by
  have all : ∀ r ∈ regs, inV r regs = true ∧ flatV r = true := by decide +kernel
  exact all r h
theorem nm_noreg {t : Str} (h : Nm t) : inV (.str t) regs = false := by
  cases e : inV (.str t) regs with
  | false => rfl
  | true =>
    have hm : V.str t ∈ regs := by
      have e' : ((V.str "r0" : V), ()) = (V.str "r0", ()) := rfl
      have q : ((Str.ofString "r0" == t) || ((Str.ofString "r1" == t) || ((Str.ofString "r2" == t) || false))) = true := e
      rw [Bool.or_false, Bool.or_eq_true, Bool.or_eq_true, beq_iff_eq, beq_iff_eq, beq_iff_eq] at q
      rcases q with rfl | rfl | rfl <;> decide +kernel
    have n := h.2.2
    have all : ∀ r ∈ regs, ∀ t, r = .str t → t.cps.toList.all inL = false := by
      intro r hr t et
      simp only [regs, List.mem_cons, List.not_mem_nil, or_false] at hr
      rcases hr with rfl | rfl | rfl <;> cases et <;> decide +kernel
    rw [all _ hm t rfl] at n
    cases n
section
variable {P : Program} {w : World} {K : PySem.W.Frag} {mg : Str → Option Value} {base : Heap} {Z : Fs}
def sp_first_number (K : PySem.W.Frag) : Sp := fun vs H Q _ => ∃ (a : Addr) (xs : List V) (y : V) (n : Int), vs = [.ref a] ∧ SqT K H a xs ∧ atI xs 1 = some y ∧ ((y ∈ regs ∧ n = regN y) ∨ ((∃ t, y = .str t ∧ Nm t) ∧ n = 0)) ∧ Q (.int n) H
theorem ok_first_number (T : Txt K w mg Z) : FnOk P w K mg base CX0 2 Z.a_first_number Z.d_first_number ["row"] (sp_first_number K) := by
  have G_number : FnOk P w K mg base CX0 1 Z.a_number Z.d_number ["name"] sp_number_of := ok_number T
  refine T.F_first_number.ok sc_first_number (fun vs H Q E h => ?_) (fun cdv A outer s H vs Q E hr h => ?_)
  · obtain ⟨a, xs, y, n, rfl, _⟩ := h
    rfl
  · obtain ⟨a, xs, y, n, rfl, hS, h1, hy, k⟩ := h
    refine ⟨_, (pss_cons (ps_if (pt_cmpR (op_in_seq : OpR _ _ (rIn K false)) (pe_ix ix_tup (pv 0) pe_int (fun _ _ => rfl)) (pe_glob (v := .ref Z.c_REGISTERS) (by rfl) T.g_REGISTERS rfl) (by rfl)) (pss_one (ps_ret (pe_call G_number (hr.mono (by omega)) (by rfl) T.m_number T.F_number.kp T.b_number .nil pass0 (pa_cons (pe_ix ix_tup (pv 0) pe_int (fun _ _ => rfl)) pa_nil)))) pss_nil)
      (pss_one (ps_ret pe_int))), ?_⟩
    rcases hy with ⟨hy, rfl⟩ | ⟨⟨t, rfl, ht⟩, rfl⟩
    · refine ⟨.ref a, rfl, a, xs, 1, y, rfl, rfl, hS, h1, _, regs, rfl, .inr (T.v_REGISTERS H), (reg_in hy).2, rfl, _, rfl, ?_⟩
      rw [if_neg (show ¬ (false = true) by decide), (reg_in hy).1]
      exact iteT ⟨.ref a, rfl, a, xs, 1, y, rfl, rfl, hS, h1, y, rfl, hy, k⟩
    · refine ⟨.ref a, rfl, a, xs, 1, .str t, rfl, rfl, hS, h1, _, regs, rfl, .inr (T.v_REGISTERS H), rfl, rfl, _, rfl, ?_⟩
      rw [if_neg (show ¬ (false = true) by decide), nm_noreg ht]
      exact iteF k
def sp_only_cell (K : PySem.W.Frag) : Sp := fun vs H Q _ => ∃ (a : Addr) (xs : List V) (c : Int), vs = [.ref a] ∧ SqT K H a xs ∧ One xs c ∧ ∀ H' : Hp, Same H H' → Q (.int c) H'
theorem ok_only_cell (T : Txt K w mg Z) : FnOk P w K mg base CX0 3 Z.a_only_cell Z.d_only_cell ["row"] (sp_only_cell K) := by
  have G_number : FnOk P w K mg base CX0 1 Z.a_number Z.d_number ["name"] sp_number_of := ok_number T
  have G_cell_of : FnOk P w K mg base CX0 2 Z.a_cell_of Z.d_cell_of ["word", "r", "s", "part"] sp_cell_of := ok_cell_of T
  refine T.F_only_cell.ok sc_only_cell (fun vs H Q E h => ?_) (fun cdv A outer s H vs Q E hr h => ?_)
  · obtain ⟨a, xs, c, rfl, _⟩ := h
    rfl
  · obtain ⟨a, xs, c, rfl, hS, hx, k⟩ := h
    refine ⟨_, (pss_cons (ps_set (i := 1) sc_only_cell.nd rfl (Or.inl rfl) (pe_ifExp (pt_cmpR op_gt (pe_callB call_len (by rfl) T.n_len boot_len (pa_cons (pv 0) pa_nil)) pe_int (nomark _)) (pe_call G_number (hr.mono (by omega)) (by rfl) T.m_number T.F_number.kp T.b_number .nil pass0 (pa_cons (pe_ix ix_tup (pv 0) pe_int (fun _ _ => rfl)) pa_nil)) pe_int))
      (pss_cons (ps_set (i := 2) sc_only_cell.nd rfl (Or.inl rfl) (pe_ifExp (pt_cmpR op_gt (pe_callB call_len (by rfl) T.n_len boot_len (pa_cons (pv 0) pa_nil)) pe_int (nomark _)) (pe_call G_number (hr.mono (by omega)) (by rfl) T.m_number T.F_number.kp T.b_number .nil pass0 (pa_cons (pe_ix ix_tup (pv 0) pe_int (fun _ _ => rfl)) pa_nil)) pe_int))
      (pss_cons (ps_set (i := 3) sc_only_cell.nd rfl (Or.inl rfl) (pe_ifExp (pt_cmpR op_gt (pe_callB call_len (by rfl) T.n_len boot_len (pa_cons (pv 0) pa_nil)) pe_int (nomark _)) (pe_ix ix_tup (pv 0) pe_int (fun _ _ => rfl)) pe_int))
      (pss_one (ps_ret (pe_call G_cell_of (hr.mono (by omega)) (by rfl) T.m_cell_of T.F_cell_of.kp (Classical.choose_spec T.d_cell_of_4).2 (Classical.choose_spec T.d_cell_of_4).1 pass0 (pa_cons (pe_ix ix_tup (pv 0) pe_int (fun _ _ => rfl)) (pa_cons (pv 1) (pa_cons (pv 2) (pa_cons (pv 3) pa_nil)))))))))), ?_⟩
    cases hx with
    | add hr hs =>
      refine ⟨.ref a, rfl, .ref a, 3, rfl, .inr ⟨_, hS, rfl⟩, _, _, rfl, rfl, _, rfl, iteY (by decide) ?_⟩
      refine ⟨.ref a, rfl, a, _, 1, _, rfl, rfl, hS, atI_nat (j := 1) rfl, _, rfl, hr, ?_⟩
      refine ⟨.ref a, rfl, .ref a, 3, rfl, .inr ⟨_, hS, rfl⟩, _, _, rfl, rfl, _, rfl, iteY (by decide) ?_⟩
      refine ⟨.ref a, rfl, a, _, 2, _, rfl, rfl, hS, atI_nat (j := 2) rfl, _, rfl, hs, ?_⟩
      refine ⟨.ref a, rfl, .ref a, 3, rfl, .inr ⟨_, hS, rfl⟩, _, _, rfl, rfl, _, rfl, iteN (by decide) ?_⟩
      exact ⟨.ref a, rfl, a, _, 0, _, rfl, rfl, hS, atI_nat (j := 0) rfl, _, rfl, _, rfl, _, rfl, 4, "add", _, _, _, rfl, rfl, regN_0 hr, regN_0 hs, (by decide), fun H1 s1 => k _ s1⟩
    | take hr hs =>
      refine ⟨.ref a, rfl, .ref a, 3, rfl, .inr ⟨_, hS, rfl⟩, _, _, rfl, rfl, _, rfl, iteY (by decide) ?_⟩
      refine ⟨.ref a, rfl, a, _, 1, _, rfl, rfl, hS, atI_nat (j := 1) rfl, _, rfl, hr, ?_⟩
      refine ⟨.ref a, rfl, .ref a, 3, rfl, .inr ⟨_, hS, rfl⟩, _, _, rfl, rfl, _, rfl, iteY (by decide) ?_⟩
      refine ⟨.ref a, rfl, a, _, 2, _, rfl, rfl, hS, atI_nat (j := 2) rfl, _, rfl, hs, ?_⟩
      refine ⟨.ref a, rfl, .ref a, 3, rfl, .inr ⟨_, hS, rfl⟩, _, _, rfl, rfl, _, rfl, iteN (by decide) ?_⟩
      exact ⟨.ref a, rfl, a, _, 0, _, rfl, rfl, hS, atI_nat (j := 0) rfl, _, rfl, _, rfl, _, rfl, 5, "take", _, _, _, rfl, rfl, regN_0 hr, regN_0 hs, (by decide), fun H1 s1 => k _ s1⟩
    | load hr hs h0 h1 =>
      refine ⟨.ref a, rfl, .ref a, 4, rfl, .inr ⟨_, hS, rfl⟩, _, _, rfl, rfl, _, rfl, iteY (by decide) ?_⟩
      refine ⟨.ref a, rfl, a, _, 1, _, rfl, rfl, hS, atI_nat (j := 1) rfl, _, rfl, hr, ?_⟩
      refine ⟨.ref a, rfl, .ref a, 4, rfl, .inr ⟨_, hS, rfl⟩, _, _, rfl, rfl, _, rfl, iteY (by decide) ?_⟩
      refine ⟨.ref a, rfl, a, _, 2, _, rfl, rfl, hS, atI_nat (j := 2) rfl, _, rfl, hs, ?_⟩
      refine ⟨.ref a, rfl, .ref a, 4, rfl, .inr ⟨_, hS, rfl⟩, _, _, rfl, rfl, _, rfl, iteY (by decide) ?_⟩
      refine ⟨.ref a, rfl, a, _, 3, _, rfl, rfl, hS, atI_nat (j := 3) rfl, ?_⟩
      exact ⟨.ref a, rfl, a, _, 0, _, rfl, rfl, hS, atI_nat (j := 0) rfl, _, rfl, _, rfl, _, rfl, 6, "load", _, _, _, rfl, rfl, regN_0 hr, regN_0 hs, ⟨h0, by omega⟩, fun H1 s1 => k _ s1⟩
    | store hr hs h0 h1 =>
      refine ⟨.ref a, rfl, .ref a, 4, rfl, .inr ⟨_, hS, rfl⟩, _, _, rfl, rfl, _, rfl, iteY (by decide) ?_⟩
      refine ⟨.ref a, rfl, a, _, 1, _, rfl, rfl, hS, atI_nat (j := 1) rfl, _, rfl, hr, ?_⟩
      refine ⟨.ref a, rfl, .ref a, 4, rfl, .inr ⟨_, hS, rfl⟩, _, _, rfl, rfl, _, rfl, iteY (by decide) ?_⟩
      refine ⟨.ref a, rfl, a, _, 2, _, rfl, rfl, hS, atI_nat (j := 2) rfl, _, rfl, hs, ?_⟩
      refine ⟨.ref a, rfl, .ref a, 4, rfl, .inr ⟨_, hS, rfl⟩, _, _, rfl, rfl, _, rfl, iteY (by decide) ?_⟩
      refine ⟨.ref a, rfl, a, _, 3, _, rfl, rfl, hS, atI_nat (j := 3) rfl, ?_⟩
      exact ⟨.ref a, rfl, a, _, 0, _, rfl, rfl, hS, atI_nat (j := 0) rfl, _, rfl, _, rfl, _, rfl, 7, "store", _, _, _, rfl, rfl, regN_0 hr, regN_0 hs, ⟨h0, by omega⟩, fun H1 s1 => k _ s1⟩
    | callby hr =>
      refine ⟨.ref a, rfl, .ref a, 2, rfl, .inr ⟨_, hS, rfl⟩, _, _, rfl, rfl, _, rfl, iteY (by decide) ?_⟩
      refine ⟨.ref a, rfl, a, _, 1, _, rfl, rfl, hS, atI_nat (j := 1) rfl, _, rfl, hr, ?_⟩
      refine ⟨.ref a, rfl, .ref a, 2, rfl, .inr ⟨_, hS, rfl⟩, _, _, rfl, rfl, _, rfl, iteN (by decide) ?_⟩
      refine ⟨.ref a, rfl, .ref a, 2, rfl, .inr ⟨_, hS, rfl⟩, _, _, rfl, rfl, _, rfl, iteN (by decide) ?_⟩
      exact ⟨.ref a, rfl, a, _, 0, _, rfl, rfl, hS, atI_nat (j := 0) rfl, _, rfl, _, rfl, _, rfl, 13, "callby", _, _, _, rfl, rfl, regN_0 hr, (by decide), (by decide), fun H1 s1 => k _ s1⟩
    | out hr =>
      refine ⟨.ref a, rfl, .ref a, 2, rfl, .inr ⟨_, hS, rfl⟩, _, _, rfl, rfl, _, rfl, iteY (by decide) ?_⟩
      refine ⟨.ref a, rfl, a, _, 1, _, rfl, rfl, hS, atI_nat (j := 1) rfl, _, rfl, hr, ?_⟩
      refine ⟨.ref a, rfl, .ref a, 2, rfl, .inr ⟨_, hS, rfl⟩, _, _, rfl, rfl, _, rfl, iteN (by decide) ?_⟩
      refine ⟨.ref a, rfl, .ref a, 2, rfl, .inr ⟨_, hS, rfl⟩, _, _, rfl, rfl, _, rfl, iteN (by decide) ?_⟩
      exact ⟨.ref a, rfl, a, _, 0, _, rfl, rfl, hS, atI_nat (j := 0) rfl, _, rfl, _, rfl, _, rfl, 15, "out", _, _, _, rfl, rfl, regN_0 hr, (by decide), (by decide), fun H1 s1 => k _ s1⟩
    | back =>
      refine ⟨.ref a, rfl, .ref a, 1, rfl, .inr ⟨_, hS, rfl⟩, _, _, rfl, rfl, _, rfl, iteN (by decide) ?_⟩
      refine ⟨.ref a, rfl, .ref a, 1, rfl, .inr ⟨_, hS, rfl⟩, _, _, rfl, rfl, _, rfl, iteN (by decide) ?_⟩
      refine ⟨.ref a, rfl, .ref a, 1, rfl, .inr ⟨_, hS, rfl⟩, _, _, rfl, rfl, _, rfl, iteN (by decide) ?_⟩
      exact ⟨.ref a, rfl, a, _, 0, _, rfl, rfl, hS, atI_nat (j := 0) rfl, _, rfl, _, rfl, _, rfl, 14, "back", _, _, _, rfl, rfl, (by decide), (by decide), (by decide), fun H1 s1 => k _ s1⟩
    | halt =>
      refine ⟨.ref a, rfl, .ref a, 1, rfl, .inr ⟨_, hS, rfl⟩, _, _, rfl, rfl, _, rfl, iteN (by decide) ?_⟩
      refine ⟨.ref a, rfl, .ref a, 1, rfl, .inr ⟨_, hS, rfl⟩, _, _, rfl, rfl, _, rfl, iteN (by decide) ?_⟩
      refine ⟨.ref a, rfl, .ref a, 1, rfl, .inr ⟨_, hS, rfl⟩, _, _, rfl, rfl, _, rfl, iteN (by decide) ?_⟩
      exact ⟨.ref a, rfl, a, _, 0, _, rfl, rfl, hS, atI_nat (j := 0) rfl, _, rfl, _, rfl, _, rfl, 1, "halt", _, _, _, rfl, rfl, (by decide), (by decide), (by decide), fun H1 s1 => k _ s1⟩
def sp_long_cells (K : PySem.W.Frag) : Sp := fun vs H Q _ => ∃ (a : Addr) (xs : List V) (ts : List Str) (go : Int) (cs : List Int), vs = [.ref a, .int go] ∧ SqT K H a xs ∧ (∀ z ∈ ts, Nm z) ∧ Lng ts go xs cs ∧ ∀ (H' : Hp) (p : Addr), Same H H' → H p = none → H' p = some (.lst (cs.map V.int)) → Q (.ref p) H'
theorem ok_long_cells (T : Txt K w mg Z) : FnOk P w K mg base CX0 4 Z.a_long_cells Z.d_long_cells ["row", "target"] (sp_long_cells K) := by
  have G_first_number : FnOk P w K mg base CX0 2 Z.a_first_number Z.d_first_number ["row"] (sp_first_number K) := ok_first_number T
  have G_half_cells : FnOk P w K mg base CX0 3 Z.a_half_cells Z.d_half_cells ["r", "address"] sp_half_cells := ok_half_cells T
  have G_cell_of : FnOk P w K mg base CX0 2 Z.a_cell_of Z.d_cell_of ["word", "r", "s", "part"] sp_cell_of := ok_cell_of T
  refine T.F_long_cells.ok sc_long_cells (fun vs H Q E h => ?_) (fun cdv A outer s H vs Q E hr h => ?_)
  · obtain ⟨a, xs, ts, go, cs, rfl, _⟩ := h
    rfl
  · obtain ⟨a, xs, ts, go, cs, rfl, hS, hz, hx, k⟩ := h
    refine ⟨_, (pss_cons (ps_set (i := 2) sc_long_cells.nd rfl (Or.inl rfl) (pe_ix ix_tup (pv 0) pe_int (fun _ _ => rfl)))
      (pss_cons (ps_if (pt_cmpR op_eq (pv 2) pe_str (nomark _)) (pss_one (ps_ret (pe_call G_half_cells (hr.mono (by omega)) (by rfl) T.m_half_cells T.F_half_cells.kp T.b_half_cells .nil pass0 (pa_cons (pe_call G_first_number (hr.mono (by omega)) (by rfl) T.m_first_number T.F_first_number.kp T.b_first_number .nil pass0 (pa_cons (pv 0) pa_nil)) (pa_cons (pv 1) pa_nil))))) pss_nil)
      (pss_cons (ps_set (i := 3) sc_long_cells.nd rfl (Or.inl rfl) (pe_call G_half_cells (hr.mono (by omega)) (by rfl) T.m_half_cells T.F_half_cells.kp T.b_half_cells .nil pass0 (pa_cons (pe_glob (v := .int 3) (by rfl) (Classical.choose_spec T.g_HIDDEN) ⟨_, rfl⟩) (pa_cons (pv 1) pa_nil))))
      (pss_cons (ps_if (pt_cmpR op_eq (pv 2) pe_str (nomark _)) (pss_one (ps_ret (pe_op op_cat (pv 3) (pe_lst (pa_cons (pe_call G_cell_of (hr.mono (by omega)) (by rfl) T.m_cell_of T.F_cell_of.kp (Classical.choose_spec T.d_cell_of_2).2 (Classical.choose_spec T.d_cell_of_2).1 pass0 (pa_cons pe_str (pa_cons (pe_glob (v := .int 3) (by rfl) (Classical.choose_spec T.g_HIDDEN) ⟨_, rfl⟩) pa_nil))) pa_nil))))) pss_nil)
      (pss_cons (ps_set (i := 4) sc_long_cells.nd rfl (Or.inl rfl) (pe_op op_cat (pv 3) (pe_lst (pa_cons (pe_call G_cell_of (hr.mono (by omega)) (by rfl) T.m_cell_of T.F_cell_of.kp (Classical.choose_spec T.d_cell_of_2).2 (Classical.choose_spec T.d_cell_of_2).1 pass0 (pa_cons pe_str (pa_cons (pe_glob (v := .int 3) (by rfl) (Classical.choose_spec T.g_HIDDEN) ⟨_, rfl⟩) pa_nil))) pa_nil))))
      (pss_cons (ps_if (pt_cmpR op_eq (pv 2) pe_str (nomark _)) (pss_one (ps_ret (pv 4))) pss_nil)
      (pss_one (ps_ret (pe_op op_cat (pe_lst (pa_cons (pe_callN G_cell_of (hr.mono (by omega)) (by rfl) T.m_cell_of T.F_cell_of.kp (Classical.choose_spec T.d_cell_of_2_part) pass0 (pa_cons pe_str (pa_cons (pe_call G_first_number (hr.mono (by omega)) (by rfl) T.m_first_number T.F_first_number.kp T.b_first_number .nil pass0 (pa_cons (pv 0) pa_nil)) pa_nil)) (pk_cons pe_int pk_nil)) (pa_cons (pe_callN G_cell_of (hr.mono (by omega)) (by rfl) T.m_cell_of T.F_cell_of.kp (Classical.choose_spec T.d_cell_of_1_part) pass0 (pa_cons pe_str pa_nil) (pk_cons pe_int pk_nil)) pa_nil))) (pv 4)))))))))), ?_⟩
    cases hx with
    | name hr ht =>
      refine ⟨.ref a, rfl, a, _, 0, _, rfl, rfl, hS, atI_nat (j := 0) rfl, ?_⟩
      refine ⟨_, rfl, rfl, _, rfl, iteY (by decide +kernel) ?_⟩
      exact ⟨.ref a, rfl, a, _, _, _, rfl, hS, atI_nat (j := 1) rfl, .inl ⟨hr, rfl⟩, .int go, rfl, _, go, rfl, (regN_0 hr).1, (regN_0 hr).2, fun H1 p s1 hp ep => k _ p s1 hp ep⟩
    | jump ht =>
      refine ⟨.ref a, rfl, a, _, 0, _, rfl, rfl, hS, atI_nat (j := 0) rfl, ?_⟩
      refine ⟨_, rfl, rfl, _, rfl, iteN (by decide +kernel) ?_⟩
      refine ⟨.int go, rfl, 3, go, rfl, by decide, by decide, fun H1 p s1 hp ep => ?_⟩
      refine ⟨_, rfl, rfl, _, rfl, iteN (by decide +kernel) ?_⟩
      refine ⟨_, rfl, 12, "jumpby", 3, 0, 0, rfl, rfl, (by decide), (by decide), (by decide), fun H2 s2 => ⟨(by show 1 ≤ sizeLine; decide), fun q hq => ?_⟩⟩
      have s3 : Same H2 (upd H2 q (.lst [V.int (dg (12 : Nat) 3 0 0)])) := Same.new hq
      have eq : (upd H2 q (.lst [V.int (dg (12 : Nat) 3 0 0)])) q = some (.lst [V.int (dg (12 : Nat) 3 0 0)]) := upd_same
      generalize upd H2 q (.lst [V.int (dg (12 : Nat) 3 0 0)]) = H3 at s3 eq ⊢
      replace ep := s3 _ _ (s2 _ _ ep)
      refine ⟨p, q, _, _, rfl, rfl, ep, eq, (by show 2 + 1 ≤ sizeLine; decide), fun c hc => ?_⟩
      have s4 : Same H3 (upd H3 c (.lst ([V.int (dg 2 3 0 (pH go)), V.int (dg 3 3 0 (pL go))] ++ [V.int (dg (12 : Nat) 3 0 0)]))) := Same.new hc
      have ec : (upd H3 c (.lst ([V.int (dg 2 3 0 (pH go)), V.int (dg 3 3 0 (pL go))] ++ [V.int (dg (12 : Nat) 3 0 0)]))) c = some (.lst ((led 12 go).map V.int)) := upd_same
      have tt := (s1.trans s2).trans s3
      have hc0 := tt.free hc
      generalize upd H3 c (.lst ([V.int (dg 2 3 0 (pH go)), V.int (dg 3 3 0 (pL go))] ++ [V.int (dg (12 : Nat) 3 0 0)])) = H4 at s4 ec ⊢
      refine ⟨_, rfl, rfl, _, rfl, iteY (by decide +kernel) ⟨.ref c, rfl, k _ c (tt.trans s4) hc0 ec⟩⟩
    | call ht =>
      refine ⟨.ref a, rfl, a, _, 0, _, rfl, rfl, hS, atI_nat (j := 0) rfl, ?_⟩
      refine ⟨_, rfl, rfl, _, rfl, iteN (by decide +kernel) ?_⟩
      refine ⟨.int go, rfl, 3, go, rfl, by decide, by decide, fun H1 p s1 hp ep => ?_⟩
      refine ⟨_, rfl, rfl, _, rfl, iteY (by decide +kernel) ?_⟩
      refine ⟨_, rfl, 13, "callby", 3, 0, 0, rfl, rfl, (by decide), (by decide), (by decide), fun H2 s2 => ⟨(by show 1 ≤ sizeLine; decide), fun q hq => ?_⟩⟩
      have s3 : Same H2 (upd H2 q (.lst [V.int (dg (13 : Nat) 3 0 0)])) := Same.new hq
      have eq : (upd H2 q (.lst [V.int (dg (13 : Nat) 3 0 0)])) q = some (.lst [V.int (dg (13 : Nat) 3 0 0)]) := upd_same
      generalize upd H2 q (.lst [V.int (dg (13 : Nat) 3 0 0)]) = H3 at s3 eq ⊢
      replace ep := s3 _ _ (s2 _ _ ep)
      refine ⟨p, q, _, _, rfl, rfl, ep, eq, (by show 2 + 1 ≤ sizeLine; decide), fun c hc => ?_⟩
      have s4 : Same H3 (upd H3 c (.lst ([V.int (dg 2 3 0 (pH go)), V.int (dg 3 3 0 (pL go))] ++ [V.int (dg (13 : Nat) 3 0 0)]))) := Same.new hc
      have ec : (upd H3 c (.lst ([V.int (dg 2 3 0 (pH go)), V.int (dg 3 3 0 (pL go))] ++ [V.int (dg (13 : Nat) 3 0 0)]))) c = some (.lst ((led 13 go).map V.int)) := upd_same
      have tt := (s1.trans s2).trans s3
      have hc0 := tt.free hc
      generalize upd H3 c (.lst ([V.int (dg 2 3 0 (pH go)), V.int (dg 3 3 0 (pL go))] ++ [V.int (dg (13 : Nat) 3 0 0)])) = H4 at s4 ec ⊢
      exact k _ c (tt.trans s4) hc0 ec
    | @ifzero r t hr ht =>
      refine ⟨.ref a, rfl, a, _, 0, _, rfl, rfl, hS, atI_nat (j := 0) rfl, ?_⟩
      refine ⟨_, rfl, rfl, _, rfl, iteN (by decide +kernel) ?_⟩
      refine ⟨.int go, rfl, 3, go, rfl, by decide, by decide, fun H1 p s1 hp ep => ?_⟩
      refine ⟨_, rfl, rfl, _, rfl, iteN (by decide +kernel) ?_⟩
      refine ⟨_, rfl, 12, "jumpby", 3, 0, 0, rfl, rfl, (by decide), (by decide), (by decide), fun H2 s2 => ⟨(by show 1 ≤ sizeLine; decide), fun q hq => ?_⟩⟩
      have s3 : Same H2 (upd H2 q (.lst [V.int (dg (12 : Nat) 3 0 0)])) := Same.new hq
      have eq : (upd H2 q (.lst [V.int (dg (12 : Nat) 3 0 0)])) q = some (.lst [V.int (dg (12 : Nat) 3 0 0)]) := upd_same
      generalize upd H2 q (.lst [V.int (dg (12 : Nat) 3 0 0)]) = H3 at s3 eq ⊢
      replace ep := s3 _ _ (s2 _ _ ep)
      refine ⟨p, q, _, _, rfl, rfl, ep, eq, (by show 2 + 1 ≤ sizeLine; decide), fun c hc => ?_⟩
      have s4 : Same H3 (upd H3 c (.lst ([V.int (dg 2 3 0 (pH go)), V.int (dg 3 3 0 (pL go))] ++ [V.int (dg (12 : Nat) 3 0 0)]))) := Same.new hc
      have ec : (upd H3 c (.lst ([V.int (dg 2 3 0 (pH go)), V.int (dg 3 3 0 (pL go))] ++ [V.int (dg (12 : Nat) 3 0 0)]))) c = some (.lst ((led 12 go).map V.int)) := upd_same
      have tt := (s1.trans s2).trans s3
      have hc0 := tt.free hc
      generalize upd H3 c (.lst ([V.int (dg 2 3 0 (pH go)), V.int (dg 3 3 0 (pL go))] ++ [V.int (dg (12 : Nat) 3 0 0)])) = H4 at s4 ec ⊢
      have hS4 := Same.sqT (tt.trans s4) hS
      refine ⟨_, rfl, rfl, _, rfl, iteN (by decide +kernel) ?_⟩
      refine ⟨.ref a, rfl, a, _, _, _, rfl, hS4, atI_nat (j := 1) rfl, .inl ⟨hr, rfl⟩, ?_⟩
      refine ⟨rfl, rfl, 9, "ifzero", _, 0, 2, rfl, rfl, regN_0 hr, (by decide), (by decide), fun H5 s5 => ⟨rfl, rfl, 8, "jump", 0, 0, 4, rfl, rfl, (by decide), (by decide), (by decide), fun H6 s6 => ⟨(by show 2 ≤ sizeLine; decide), fun q2 hq2 => ?_⟩⟩⟩
      have ec6 := s6 _ _ (s5 _ _ ec)
      have s7 := Same.new (o := .lst [V.int (dg (9 : Nat) (regN r) 0 2), V.int (dg (8 : Nat) 0 0 4)]) hq2
      refine ⟨.ref c, rfl, q2, c, _, _, rfl, rfl, upd_same, s7 _ _ ec6, (by show 2 + 3 ≤ sizeLine; decide), fun c2 hc2 => ?_⟩
      have t7 := (((tt.trans s4).trans s5).trans s6).trans s7
      exact k _ c2 (t7.trans (Same.new hc2)) (t7.free hc2) upd_same
def sp_row_cells (K : PySem.W.Frag) : Sp := fun vs H Q _ => ∃ (a : Addr) (xs : List V) (ts : List Str) (pl go : Int) (far : Bool) (cs : List Int), vs = [.ref a, .int pl, .int go, .bl far] ∧ SqT K H a xs ∧ (∀ z ∈ ts, Nm z) ∧ Cel ts pl go far xs cs ∧ ∀ (H' : Hp) (p : Addr), Same H H' → H p = none → H' p = some (.lst (cs.map V.int)) → Q (.ref p) H'
theorem ok_row_cells (T : Txt K w mg Z) : FnOk P w K mg base CX0 5 Z.a_row_cells Z.d_row_cells ["row", "at", "target", "long"] (sp_row_cells K) := by
  have G_number : FnOk P w K mg base CX0 1 Z.a_number Z.d_number ["name"] sp_number_of := ok_number T
  have G_first_number : FnOk P w K mg base CX0 2 Z.a_first_number Z.d_first_number ["row"] (sp_first_number K) := ok_first_number T
  have G_half_cells : FnOk P w K mg base CX0 3 Z.a_half_cells Z.d_half_cells ["r", "address"] sp_half_cells := ok_half_cells T
  have G_cell_of : FnOk P w K mg base CX0 2 Z.a_cell_of Z.d_cell_of ["word", "r", "s", "part"] sp_cell_of := ok_cell_of T
  have G_only_cell : FnOk P w K mg base CX0 3 Z.a_only_cell Z.d_only_cell ["row"] (sp_only_cell K) := ok_only_cell T
  have G_long_cells : FnOk P w K mg base CX0 4 Z.a_long_cells Z.d_long_cells ["row", "target"] (sp_long_cells K) := ok_long_cells T
  have G_unsigned : FnOk P w K mg base CX0 1 Z.a_unsigned Z.d_unsigned ["value"] sp_unsigned := ok_unsigned T
  refine T.F_row_cells.ok sc_row_cells (fun vs H Q E h => ?_) (fun cdv A outer s H vs Q E hr h => ?_)
  · obtain ⟨a, xs, ts, pl, go, far, cs, rfl, _⟩ := h
    rfl
  · obtain ⟨a, xs, ts, pl, go, far, cs, rfl, hS, hz, hx, k⟩ := h
    refine ⟨_, PSs.nox (pss_cons (ps_set (i := 4) sc_row_cells.nd rfl (Or.inl rfl) (pe_ix ix_tup (pv 0) pe_int (fun _ _ => rfl)))
      (pss_cons (ps_if (pt_cmpR op_eq (pv 4) pe_str (nomark _)) (pss_one (ps_ret (pe_op op_rep (pe_lst (pa_cons pe_int pa_nil)) (pe_ix ix_tup (pv 0) pe_int (fun _ _ => rfl))))) pss_nil)
      (pss_cons (ps_if (pt_cmpR op_eq (pv 4) pe_str (nomark _)) (pss_one (ps_ret (pe_lst (pa_cons (pe_ix ix_tup (pv 0) pe_int (fun _ _ => rfl)) pa_nil)))) pss_nil)
      (pss_cons (ps_if (pt_cmpR op_eq (pv 4) pe_str (nomark _)) (pss_one (ps_ret (pe_lst (pa_cons (pv 2) pa_nil)))) pss_nil)
      (pss_cons (ps_if (pt_cmpR op_eq (pv 4) pe_str (nomark _)) (pss_one (ps_ret (pe_call G_half_cells (hr.mono (by omega)) (by rfl) T.m_half_cells T.F_half_cells.kp T.b_half_cells .nil pass0 (pa_cons (pe_call G_number (hr.mono (by omega)) (by rfl) T.m_number T.F_number.kp T.b_number .nil pass0 (pa_cons (pe_ix ix_tup (pv 0) pe_int (fun _ _ => rfl)) pa_nil)) (pa_cons (pe_ix ix_tup (pv 0) pe_int (fun _ _ => rfl)) pa_nil))))) pss_nil)
      (pss_cons (ps_if (pt_cmpR (op_notIn_kd T.D_SHORT_CODES) (pv 4) (pe_glob (v := .ref Z.c_SHORT_CODES) (by rfl) T.g_SHORT_CODES rfl) (by rfl)) (pss_one (ps_ret (pe_lst (pa_cons (pe_call G_only_cell (hr.mono (by omega)) (by rfl) T.m_only_cell T.F_only_cell.kp T.b_only_cell .nil pass0 (pa_cons (pv 0) pa_nil)) pa_nil)))) pss_nil)
      (pss_cons (ps_if (pt_val (pv 3)) (pss_one (ps_ret (pe_call G_long_cells (hr.mono (by omega)) (by rfl) T.m_long_cells T.F_long_cells.kp T.b_long_cells .nil pass0 (pa_cons (pv 0) (pa_cons (pv 2) pa_nil))))) pss_nil)
      (pss_one (ps_ret (pe_lst (pa_cons (pe_callN G_cell_of (hr.mono (by omega)) (by rfl) T.m_cell_of T.F_cell_of.kp (Classical.choose_spec T.d_cell_of_1_r_part) pass0 (pa_cons (pe_ix ix_kdict (pe_glob (v := .ref Z.c_SHORT_CODES) (by rfl) T.g_SHORT_CODES rfl) (pv 4) (fun _ _ => rfl)) pa_nil) (pk_cons (pe_call G_first_number (hr.mono (by omega)) (by rfl) T.m_first_number T.F_first_number.kp T.b_first_number .nil pass0 (pa_cons (pv 0) pa_nil)) (pk_cons (pe_call G_unsigned (hr.mono (by omega)) (by rfl) T.m_unsigned T.F_unsigned.kp T.b_unsigned .nil pass0 (pa_cons (pe_op op_sub (pv 2) (pv 1)) pa_nil)) pk_nil))) pa_nil))))))))))), ?_⟩
    -- a row of another word
    have hw : ∀ {u : Str} {r : List V}, xs = .str u :: r → atI xs 0 = some (.str u) := fun e => by rw [e]; exact atI_nat (j := 0) rfl
    cases hx with
    | room h0 h1 =>
      refine ⟨.ref a, rfl, a, _, 0, _, rfl, rfl, hS, atI_nat (j := 0) rfl, ?_⟩
      refine ⟨_, rfl, rfl, _, rfl, iteY (by decide +kernel) ?_⟩
      refine ⟨(by show 1 ≤ sizeLine; decide), fun p1 h1' => ?_⟩
      have s1 : Same H (upd H p1 (.lst [V.int 0])) := Same.new h1'
      have e1 : (upd H p1 (.lst [V.int 0])) p1 = some (.lst [V.int 0]) := upd_same
      generalize upd H p1 (.lst [V.int 0]) = H1 at s1 e1 ⊢
      refine ⟨.ref a, rfl, a, _, 1, _, rfl, rfl, Same.sqT s1 hS, atI_nat (j := 1) rfl, p1, _, _, rfl, rfl, e1, by omega, by omega, Nat.le_trans (show _ ≤ 120 by rw [List.length_singleton]; omega) (by decide), fun p hp => ?_⟩
      rw [flat_rep]
      exact k _ p (s1.trans (Same.new hp)) (s1.free hp) upd_same
    | word =>
      refine ⟨.ref a, rfl, a, _, 0, _, rfl, rfl, hS, atI_nat (j := 0) rfl, ?_⟩
      refine ⟨_, rfl, rfl, _, rfl, iteN (by decide +kernel) ?_⟩
      refine ⟨_, rfl, rfl, _, rfl, iteY (by decide +kernel) ?_⟩
      exact ⟨.ref a, rfl, a, _, 1, _, rfl, rfl, hS, atI_nat (j := 1) rfl, (by show 1 ≤ sizeLine; decide), fun p hp => k _ p (Same.new hp) hp upd_same⟩
    | address ht =>
      refine ⟨.ref a, rfl, a, _, 0, _, rfl, rfl, hS, atI_nat (j := 0) rfl, ?_⟩
      refine ⟨_, rfl, rfl, _, rfl, iteN (by decide +kernel) ?_⟩
      refine ⟨_, rfl, rfl, _, rfl, iteN (by decide +kernel) ?_⟩
      refine ⟨_, rfl, rfl, _, rfl, iteY (by decide +kernel) ?_⟩
      exact ⟨.int go, rfl, (by show 1 ≤ sizeLine; decide), fun p hp => k _ p (Same.new hp) hp upd_same⟩
    | put hr =>
      refine ⟨.ref a, rfl, a, _, 0, _, rfl, rfl, hS, atI_nat (j := 0) rfl, ?_⟩
      refine ⟨_, rfl, rfl, _, rfl, iteN (by decide +kernel) ?_⟩
      refine ⟨_, rfl, rfl, _, rfl, iteN (by decide +kernel) ?_⟩
      refine ⟨_, rfl, rfl, _, rfl, iteN (by decide +kernel) ?_⟩
      refine ⟨_, rfl, rfl, _, rfl, iteY (by decide +kernel) ?_⟩
      refine ⟨.ref a, rfl, a, _, 1, _, rfl, rfl, hS, atI_nat (j := 1) rfl, _, rfl, hr, .ref a, rfl, a, _, 2, _, rfl, rfl, hS, atI_nat (j := 2) rfl, ?_⟩
      exact ⟨_, _, rfl, (regN_0 hr).1, (regN_0 hr).2, fun H1 p s1 hp ep => k _ p s1 hp ep⟩
    | one h =>
      obtain ⟨u, r, rfl, n1, n2, n3, n4, hf⟩ : ∃ (u : Str) (r : List V), xs = .str u :: r ∧ u ≠ "room" ∧ u ≠ "word" ∧ u ≠ "address" ∧ u ≠ "put" ∧ (findT tb_SHORT_CODES u).isSome = false := by
        cases h <;> exact ⟨_, _, rfl, by decide +kernel, by decide +kernel, by decide +kernel, by decide +kernel, by decide +kernel⟩
      obtain ⟨q, q1, q2⟩ := T.x_SHORT_CODES u
      refine ⟨.ref a, rfl, a, _, 0, _, rfl, rfl, hS, atI_nat (j := 0) rfl, ?_⟩
      refine ⟨_, rfl, rfl, _, rfl, iteN (fun e => n1 (V.str.inj e)) ?_⟩
      refine ⟨_, rfl, rfl, _, rfl, iteN (fun e => n2 (V.str.inj e)) ?_⟩
      refine ⟨_, rfl, rfl, _, rfl, iteN (fun e => n3 (V.str.inj e)) ?_⟩
      refine ⟨_, rfl, rfl, _, rfl, iteN (fun e => n4 (V.str.inj e)) ?_⟩
      refine ⟨_, rfl, u, q, rfl, rfl, q1, _, rfl, ?_⟩
      rw [(relO_v q2).1, hf]
      refine iteT ⟨.ref a, rfl, a, _, _, rfl, hS, h, fun H1 s1 => ⟨(by show 1 ≤ sizeLine; decide), fun p hp => ?_⟩⟩
      exact k _ p (s1.trans (Same.new hp)) (s1.free hp) upd_same
    | lng h =>
      obtain ⟨u, r, rfl, n1, n2, n3, n4, hf⟩ : ∃ (u : Str) (r : List V), xs = .str u :: r ∧ u ≠ "room" ∧ u ≠ "word" ∧ u ≠ "address" ∧ u ≠ "put" ∧ (findT tb_SHORT_CODES u).isSome = true := by
        cases h <;> exact ⟨_, _, rfl, by decide +kernel, by decide +kernel, by decide +kernel, by decide +kernel, by decide +kernel⟩
      obtain ⟨q, q1, q2⟩ := T.x_SHORT_CODES u
      refine ⟨.ref a, rfl, a, _, 0, _, rfl, rfl, hS, atI_nat (j := 0) rfl, ?_⟩
      refine ⟨_, rfl, rfl, _, rfl, iteN (fun e => n1 (V.str.inj e)) ?_⟩
      refine ⟨_, rfl, rfl, _, rfl, iteN (fun e => n2 (V.str.inj e)) ?_⟩
      refine ⟨_, rfl, rfl, _, rfl, iteN (fun e => n3 (V.str.inj e)) ?_⟩
      refine ⟨_, rfl, rfl, _, rfl, iteN (fun e => n4 (V.str.inj e)) ?_⟩
      refine ⟨_, rfl, u, q, rfl, rfl, q1, _, rfl, ?_⟩
      rw [(relO_v q2).1, hf]
      refine iteF ⟨.bl true, rfl, true, rfl, iteT ?_⟩
      exact ⟨.ref a, rfl, .int go, rfl, a, _, ts, go, cs, rfl, hS, hz, h, fun H1 p s1 hp ep => k _ p s1 hp ep⟩
    | sht h =>
      rename_i j n
      obtain ⟨u, r, j', u', y, rfl, n1, n2, n3, n4, hf, rfl, hj, h1, hy, hn⟩ : ∃ (u : Str) (r : List V) (j' : Nat) (u' : Str) (y : V), xs = .str u :: r ∧ u ≠ "room" ∧ u ≠ "word" ∧ u ≠ "address" ∧ u ≠ "put" ∧ findT tb_SHORT_CODES u = some (.str u') ∧ j = ((j' : Nat) : Int) ∧ cds[j']? = some u' ∧ atI xs 1 = some y ∧ ((y ∈ regs ∧ n = regN y) ∨ ((∃ t, y = .str t ∧ Nm t) ∧ n = 0)) ∧ 0 ≤ n ∧ n ≤ 3 := by
        cases h with
        | name hr ht => exact ⟨"name", _, 11, "near", _, rfl, by decide +kernel, by decide +kernel, by decide +kernel, by decide +kernel, by decide +kernel, rfl, rfl, atI_nat (j := 1) rfl, .inl ⟨hr, rfl⟩, regN_0 hr⟩
        | jump ht => exact ⟨"jump", _, 8, "jump", _, rfl, by decide +kernel, by decide +kernel, by decide +kernel, by decide +kernel, by decide +kernel, rfl, rfl, atI_nat (j := 1) rfl, .inr ⟨⟨_, rfl, hz _ ht⟩, rfl⟩, by decide, by decide⟩
        | call ht => exact ⟨"call", _, 10, "call", _, rfl, by decide +kernel, by decide +kernel, by decide +kernel, by decide +kernel, by decide +kernel, rfl, rfl, atI_nat (j := 1) rfl, .inr ⟨⟨_, rfl, hz _ ht⟩, rfl⟩, by decide, by decide⟩
        | ifzero hr ht => exact ⟨"ifzero", _, 9, "ifzero", _, rfl, by decide +kernel, by decide +kernel, by decide +kernel, by decide +kernel, by decide +kernel, rfl, rfl, atI_nat (j := 1) rfl, .inl ⟨hr, rfl⟩, regN_0 hr⟩
      obtain ⟨q, q1, q2⟩ := T.x_SHORT_CODES u
      obtain ⟨i1, i2⟩ := relO_v q2
      obtain ⟨v0, rfl, rv⟩ := i2 _ hf
      refine ⟨.ref a, rfl, a, _, 0, _, rfl, rfl, hS, atI_nat (j := 0) rfl, ?_⟩
      refine ⟨_, rfl, rfl, _, rfl, iteN (fun e => n1 (V.str.inj e)) ?_⟩
      refine ⟨_, rfl, rfl, _, rfl, iteN (fun e => n2 (V.str.inj e)) ?_⟩
      refine ⟨_, rfl, rfl, _, rfl, iteN (fun e => n3 (V.str.inj e)) ?_⟩
      refine ⟨_, rfl, rfl, _, rfl, iteN (fun e => n4 (V.str.inj e)) ?_⟩
      refine ⟨_, rfl, u, _, rfl, rfl, q1, _, rfl, iteF ⟨.bl false, rfl, false, rfl, iteF ?_⟩⟩
      have w0 : 0 ≤ aw pl go ∧ aw pl go ≤ 255 := by
        unfold aw
        omega
      refine ⟨.str u, rfl, _, u, .str u', rfl, rfl, ⟨_, _, v0, T.D_SHORT_CODES.at_, T.D_SHORT_CODES.lit, q1, rv⟩, ?_⟩
      refine ⟨.ref a, rfl, a, _, y, n, rfl, hS, h1, hy, .int go, rfl, .int pl, rfl, _, _, rfl, rfl, go - pl, rfl, rfl, rfl, j', u', n, 0, aw pl go, rfl, hj, hn, (by decide), w0, fun H1 s1 => ⟨(by show 1 ≤ sizeLine; decide), fun p hp => ?_⟩⟩
      exact k _ p (s1.trans (Same.new hp)) (s1.free hp) upd_same
end

def hd0 (xs : List V) : V := xs.getD 0 .non
/-! ### what each form does, on the plain machine -/
theorem cC_dg {c a b d : Int} (ha : 0 ≤ a ∧ a ≤ 3) (hb : 0 ≤ b ∧ b ≤ 3) (hd : 0 ≤ d ∧ d ≤ 255) : cC (dg c a b d) = c ∧ (0 ≤ c → cA (dg c a b d) = a) ∧ (0 ≤ c → cB (dg c a b d) = b) ∧ cD (dg c a b d) = d := by
  unfold cC cA cB cD dg
  omega
def nr (d : Int) : Int := if d < 128 then d else d - 256
theorem near_dg {c a b d : Int} (hd : 0 ≤ d ∧ d ≤ 255) : nearI (dg c a b d) = nr d := by
  have e : cD (dg c a b d) = d := by
    unfold cD dg
    omega
  unfold nearI nr
  rw [e]
section
variable {hd : Int × Int} {own : List Int} {here a b d : Int}
theorem mst2 (ha : 0 ≤ a ∧ a ≤ 3) (hb : 0 ≤ b ∧ b ≤ 3) (h : 0 ≤ d ∧ d ≤ 255) : mst hd (dg 2 a b d) own here = ⟨own.set a.toNat (d * 256), none, (here + 1) % 65536, ""⟩ := by
  obtain ⟨e1, e2, e3, e4⟩ := cC_dg (c := 2) ha hb h
  simp [mst, e1, e2, e3, e4]
theorem mst3 (ha : 0 ≤ a ∧ a ≤ 3) (hb : 0 ≤ b ∧ b ≤ 3) (h : 0 ≤ d ∧ d ≤ 255) : mst hd (dg 3 a b d) own here = ⟨own.set a.toNat ((gI own a + nr d + 65536) % 65536), none, (here + 1) % 65536, ""⟩ := by
  obtain ⟨e1, e2, e3, e4⟩ := cC_dg (c := 3) ha hb h
  simp [mst, e1, e2, e3, e4, near_dg h]
theorem mst4 (ha : 0 ≤ a ∧ a ≤ 3) (hb : 0 ≤ b ∧ b ≤ 3) (h : 0 ≤ d ∧ d ≤ 255) : mst hd (dg 4 a b d) own here = ⟨own.set a.toNat ((gI own a + gI own b) % 65536), none, (here + 1) % 65536, ""⟩ := by
  obtain ⟨e1, e2, e3, e4⟩ := cC_dg (c := 4) ha hb h
  simp [mst, e1, e2, e3, e4]
theorem mst5 (ha : 0 ≤ a ∧ a ≤ 3) (hb : 0 ≤ b ∧ b ≤ 3) (h : 0 ≤ d ∧ d ≤ 255) : mst hd (dg 5 a b d) own here = ⟨own.set a.toNat ((gI own a - gI own b + 65536) % 65536), none, (here + 1) % 65536, ""⟩ := by
  obtain ⟨e1, e2, e3, e4⟩ := cC_dg (c := 5) ha hb h
  simp [mst, e1, e2, e3, e4]
theorem mst6 (ha : 0 ≤ a ∧ a ≤ 3) (hb : 0 ≤ b ∧ b ≤ 3) (h : 0 ≤ d ∧ d ≤ 255) : mst hd (dg 6 a b d) own here = ⟨own.set a.toNat (if (gI own b + d) % 65536 = hd.1 then hd.2 else -1), none, (here + 1) % 65536, ""⟩ := by
  obtain ⟨e1, e2, e3, e4⟩ := cC_dg (c := 6) ha hb h
  simp [mst, e1, e2, e3, e4]
theorem mst7 (ha : 0 ≤ a ∧ a ≤ 3) (hb : 0 ≤ b ∧ b ≤ 3) (h : 0 ≤ d ∧ d ≤ 255) : mst hd (dg 7 a b d) own here = ⟨own, some ((gI own b + d) % 65536, gI own a), (here + 1) % 65536, "store"⟩ := by
  obtain ⟨e1, e2, e3, e4⟩ := cC_dg (c := 7) ha hb h
  simp [mst, e1, e2, e3, e4]
theorem mst8 (ha : 0 ≤ a ∧ a ≤ 3) (hb : 0 ≤ b ∧ b ≤ 3) (h : 0 ≤ d ∧ d ≤ 255) : mst hd (dg 8 a b d) own here = ⟨own, none, (here + nr d + 65536) % 65536, ""⟩ := by
  obtain ⟨e1, e2, e3, e4⟩ := cC_dg (c := 8) ha hb h
  simp [mst, e1, e2, e3, e4, goneI, near_dg h]
theorem mst9 (ha : 0 ≤ a ∧ a ≤ 3) (hb : 0 ≤ b ∧ b ≤ 3) (h : 0 ≤ d ∧ d ≤ 255) : mst hd (dg 9 a b d) own here = ⟨own, none, if gI own a = 0 then (here + nr d + 65536) % 65536 else (here + 1) % 65536, ""⟩ := by
  obtain ⟨e1, e2, e3, e4⟩ := cC_dg (c := 9) ha hb h
  by_cases z : gI own a = 0
  · simp [mst, e1, e2, e3, e4, goneI, near_dg h, z]
  · simp [mst, e1, e2, e3, e4, goneI, near_dg h, z]
theorem mst10 (ha : 0 ≤ a ∧ a ≤ 3) (hb : 0 ≤ b ∧ b ≤ 3) (h : 0 ≤ d ∧ d ≤ 255) : mst hd (dg 10 a b d) own here = ⟨own, none, (here + nr d + 65536) % 65536, "call"⟩ := by
  obtain ⟨e1, e2, e3, e4⟩ := cC_dg (c := 10) ha hb h
  simp [mst, e1, e2, e3, e4, goneI, near_dg h]
theorem mst11 (ha : 0 ≤ a ∧ a ≤ 3) (hb : 0 ≤ b ∧ b ≤ 3) (h : 0 ≤ d ∧ d ≤ 255) : mst hd (dg 11 a b d) own here = ⟨own.set a.toNat ((here + nr d + 65536) % 65536), none, (here + 1) % 65536, ""⟩ := by
  obtain ⟨e1, e2, e3, e4⟩ := cC_dg (c := 11) ha hb h
  simp [mst, e1, e2, e3, e4, goneI, near_dg h]
theorem mst12 (ha : 0 ≤ a ∧ a ≤ 3) (hb : 0 ≤ b ∧ b ≤ 3) (h : 0 ≤ d ∧ d ≤ 255) : mst hd (dg 12 a b d) own here = ⟨own, none, gI own a, "go"⟩ := by
  obtain ⟨e1, e2, e3, e4⟩ := cC_dg (c := 12) ha hb h
  simp [mst, e1, e2, e3, e4]
theorem mst13 (ha : 0 ≤ a ∧ a ≤ 3) (hb : 0 ≤ b ∧ b ≤ 3) (h : 0 ≤ d ∧ d ≤ 255) : mst hd (dg 13 a b d) own here = ⟨own, none, gI own a, "call"⟩ := by
  obtain ⟨e1, e2, e3, e4⟩ := cC_dg (c := 13) ha hb h
  simp [mst, e1, e2, e3, e4]
theorem mst14 (ha : 0 ≤ a ∧ a ≤ 3) (hb : 0 ≤ b ∧ b ≤ 3) (h : 0 ≤ d ∧ d ≤ 255) : mst hd (dg 14 a b d) own here = ⟨own, none, (here + 1) % 65536, "back"⟩ := by
  obtain ⟨e1, e2, e3, e4⟩ := cC_dg (c := 14) ha hb h
  simp [mst, e1, e2, e3, e4]
theorem mst1 (ha : 0 ≤ a ∧ a ≤ 3) (hb : 0 ≤ b ∧ b ≤ 3) (h : 0 ≤ d ∧ d ≤ 255) : mst hd (dg 1 a b d) own here = ⟨own, none, (here + 1) % 65536, "halt"⟩ := by
  obtain ⟨e1, e2, e3, e4⟩ := cC_dg (c := 1) ha hb h
  simp [mst, e1, e2, e3, e4]
theorem mst15 (ha : 0 ≤ a ∧ a ≤ 3) (hb : 0 ≤ b ∧ b ≤ 3) (h : 0 ≤ d ∧ d ≤ 255) : mst hd (dg 15 a b d) own here = ⟨own, none, (here + 1) % 65536, ("out " : Str) ++ toString (gI own a)⟩ := by
  obtain ⟨e1, e2, e3, e4⟩ := cC_dg (c := 15) ha hb h
  simp [mst, e1, e2, e3, e4]
end
/-- an address out of its halves -/
theorem halves {g : Int} (h0 : 0 ≤ g) (h1 : g ≤ 65535) : (pH g * 256 + nr (pL g) + 65536) % 65536 = g := by
  unfold nr pH pU pL
  split <;> split <;> omega
/-- a near target out of its part -/
theorem nears {pl g n : Int} (h0 : 0 ≤ g) (h1 : g ≤ 65535) (hn : -128 ≤ n ∧ n ≤ 127) (e : g = (pl + n + 65536) % 65536) : (pl + nr (aw pl g) + 65536) % 65536 = g := by
  unfold nr aw
  split <;> omega
section
variable {ls : List Int} {pl : Int} {hd : Int × Int}
theorem spot_at {k : Nat} (hp : 0 ≤ pl ∧ pl ≤ 65535) (hk : k < 65536) : spotI pl ((pl + k) % 65536) = k := by
  unfold spotI
  omega
/-- one cell of a run, at place k -/
theorem Path.cell {m k : Nat} {own : List Int} {here c : Int} {s : MS} (hp : 0 ≤ pl ∧ pl ≤ 65535) (hk : k < 65536) (e : here = (pl + k) % 65536) (hc : ls[k]? = some c) (t : Path ls pl hd m (mst hd c own here) s) : Path ls pl hd (m + 1) ⟨own, none, here, ""⟩ s := by
  have hs : spotI pl here = k := by rw [e]; exact spot_at hp hk
  have hl := (List.getElem?_eq_some_iff.mp hc).1
  refine .step (by rw [hs]; omega) ?_
  have hg : gI ls (spotI pl here) = c := by
    rw [hs]
    unfold gI
    rw [Int.toNat_natCast, List.getD_eq_getElem?_getD, hc]
    rfl
  rw [hg]
  exact t
theorem Path.beyond {m : Nat} {own : List Int} {st : Option (Int × Int)} {here : Int} {w : Str} (h : (ls.length : Int) ≤ spotI pl here) : Path ls pl hd (m + 1) ⟨own, st, here, w⟩ ⟨own, st, here, w⟩ := .stop (.inl h)
theorem Path.said {m : Nat} {own : List Int} {st : Option (Int × Int)} {here : Int} {w : Str} (h : w ≠ "") : Path ls pl hd (m + 1) ⟨own, st, here, w⟩ ⟨own, st, here, w⟩ := .stop (.inr h)
end
/-- put, and the long form of name -/
theorem path_put {pl g a : Int} {hd : Int × Int} {own : List Int} (hp : 0 ≤ pl ∧ pl ≤ 65535) (hg : 0 ≤ g ∧ g ≤ 65535) (ha : 0 ≤ a ∧ a ≤ 3) (hl : own.length = 4) : Path [dg 2 a 0 (pH g), dg 3 a 0 (pL g)] pl hd 3 ⟨own, none, pl, ""⟩ ⟨own.set a.toNat g, none, (pl + 2) % 65536, ""⟩ := by
  refine .cell (k := 0) hp (by decide) (by omega) rfl ?_
  rw [mst2 ha (by decide) (pH_0 g)]
  refine .cell (k := 1) hp (by decide) rfl rfl ?_
  rw [mst3 ha (by decide) (pL_0 g)]
  have e1 : gI (own.set a.toNat (pH g * 256)) a = pH g * 256 := by
    unfold gI
    simp [List.getD_eq_getElem?_getD, List.getElem?_set, show a.toNat < own.length by omega]
  have e2 : ((pl + 1) % 65536 + 1) % 65536 = (pl + 2) % 65536 := by omega
  rw [e1, halves hg.1 hg.2, e2, List.set_set]
  refine .beyond ?_
  rw [show (pl + 2) % 65536 = (pl + (2 : Nat)) % 65536 from rfl, spot_at hp (by decide)]
  show (2 : Int) ≤ 2
  decide
/-- register 3 leads to an address -/
theorem path_led {ls : List Int} {pl g l : Int} {hd : Int × Int} {own : List Int} {k m : Nat} {here : Int} {s : MS} (hp : 0 ≤ pl ∧ pl ≤ 65535) (hg : 0 ≤ g ∧ g ≤ 65535) (hl : own.length = 4) (hk : k + 2 < 65536) (e : here = (pl + k) % 65536) (h0 : ls[k]? = some (dg 2 3 0 (pH g))) (h1 : ls[k + 1]? = some (dg 3 3 0 (pL g))) (h2 : ls[k + 2]? = some l)
    (t : Path ls pl hd m (mst hd l (own.set 3 g) ((pl + (k + 2 : Nat)) % 65536)) s) : Path ls pl hd (m + 3) ⟨own, none, here, ""⟩ s := by
  refine .cell (k := k) hp (by omega) e h0 ?_
  rw [mst2 (by decide) (by decide) (pH_0 g)]
  refine .cell (k := k + 1) hp (by omega) (by rw [e]; omega) h1 ?_
  rw [mst3 (by decide) (by decide) (pL_0 g)]
  have e1 : gI (own.set (Int.toNat 3) (pH g * 256)) 3 = pH g * 256 := by
    unfold gI
    simp [List.getD_eq_getElem?_getD, List.getElem?_set, show 3 < own.length by omega]
  rw [e1, halves hg.1 hg.2, List.set_set]
  refine .cell (k := k + 2) hp (by omega) (by rw [e]; omega) h2 ?_
  have e2 : ((here + 1) % 65536 + 1) % 65536 = (pl + (k + 2 : Nat)) % 65536 := by rw [e]; omega
  rw [e2]
  exact t
theorem gI3 {own : List Int} {g : Int} (hl : own.length = 4) : gI (own.set 3 g) 3 = g := by
  unfold gI
  simp [List.getD_eq_getElem?_getD, List.getElem?_set, show 3 < own.length by omega]
theorem regN_2 {r : V} (h : r ∈ regs) : 0 ≤ regN r ∧ regN r ≤ 2 := by
  have all : ∀ r ∈ regs, 0 ≤ regN r ∧ regN r ≤ 2 := by decide +kernel
  exact all r h
/-- what a row does: registers 0 to 2, what is stored, the address behind, the last word -/
inductive Due (ts : List Str) (pl go : Int) (hd : Int × Int) (own : List Int) (size : Int) : List V → MS → Prop where
  | put {r : V} {n : Int} (hr : r ∈ regs) : Due ts pl go hd own size [.str "put", r, .int n] ⟨(own.take 3).set (regN r).toNat n, none, (pl + size) % 65536, ""⟩
  | name {r : V} {t : Str} (hr : r ∈ regs) (ht : t ∈ ts) : Due ts pl go hd own size [.str "name", r, .str t] ⟨(own.take 3).set (regN r).toNat go, none, (pl + size) % 65536, ""⟩
  | add {r s : V} (hr : r ∈ regs) (hs : s ∈ regs) : Due ts pl go hd own size [.str "add", r, s] ⟨(own.take 3).set (regN r).toNat ((gI own (regN r) + gI own (regN s)) % 65536), none, (pl + size) % 65536, ""⟩
  | take {r s : V} (hr : r ∈ regs) (hs : s ∈ regs) : Due ts pl go hd own size [.str "take", r, s] ⟨(own.take 3).set (regN r).toNat ((gI own (regN r) - gI own (regN s) + 65536) % 65536), none, (pl + size) % 65536, ""⟩
  | load {r s : V} {d : Int} (hr : r ∈ regs) (hs : s ∈ regs) : Due ts pl go hd own size [.str "load", r, s, .int d] ⟨(own.take 3).set (regN r).toNat hd.2, none, (pl + size) % 65536, ""⟩
  | store {r s : V} {d : Int} (hr : r ∈ regs) (hs : s ∈ regs) : Due ts pl go hd own size [.str "store", r, s, .int d] ⟨own.take 3, some ((gI own (regN s) + d) % 65536, gI own (regN r)), (pl + size) % 65536, "store"⟩
  | jump {t : Str} (ht : t ∈ ts) : Due ts pl go hd own size [.str "jump", .str t] ⟨own.take 3, none, go, ""⟩
  | call {t : Str} (ht : t ∈ ts) : Due ts pl go hd own size [.str "call", .str t] ⟨own.take 3, none, go, "call"⟩
  | ifzero {r : V} {t : Str} (hr : r ∈ regs) (ht : t ∈ ts) : Due ts pl go hd own size [.str "ifzero", r, .str t] ⟨own.take 3, none, if gI own (regN r) = 0 then go else (pl + size) % 65536, ""⟩
  | callby {r : V} (hr : r ∈ regs) : Due ts pl go hd own size [.str "callby", r] ⟨own.take 3, none, gI own (regN r), "call"⟩
  | out {r : V} (hr : r ∈ regs) : Due ts pl go hd own size [.str "out", r] ⟨own.take 3, none, (pl + size) % 65536, ("out " : Str) ++ toString (gI own (regN r))⟩
  | back : Due ts pl go hd own size [.str "back"] ⟨own.take 3, none, (pl + size) % 65536, "back"⟩
  | halt : Due ts pl go hd own size [.str "halt"] ⟨own.take 3, none, (pl + size) % 65536, "halt"⟩
/-- without register 3 -/
def w3 (s : MS) : MS := ⟨s.own.take 3, s.st, s.here, if s.way = "go" then "" else s.way⟩
theorem take_set3 {own : List Int} {a x : Int} : (own.set a.toNat x).take 3 = (own.take 3).set a.toNat x := List.take_set ..
theorem out_go {z : String} : ("out " : Str) ++ (Str.ofString z) ≠ "go" := by
  intro e
  have q := congrArg Str.length e
  rw [PySem.Str.length_append, show ("out " : Str).length = 4 by decide +kernel, show ("go" : Str).length = 2 by decide +kernel] at q
  omega
theorem path_one {ts : List Str} {pl go c : Int} {hd : Int × Int} {own : List Int} {xs : List V} (hp : 0 ≤ pl ∧ pl ≤ 65535) (h : One xs c)
    (hh : ∀ r s d, (xs = [.str "load", r, s, .int d] ∨ xs = [.str "store", r, s, .int d]) → hd.1 = (gI own (regN s) + d) % 65536) : ∃ s, Path [c] pl hd 2 ⟨own, none, pl, ""⟩ s ∧ Due ts pl go hd own 1 xs (w3 s) := by
  have bey : ∀ {own' : List Int} {st : Option (Int × Int)} {w : Str}, Path [c] pl hd 1 ⟨own', st, (pl + 1) % 65536, w⟩ ⟨own', st, (pl + 1) % 65536, w⟩ := .beyond (by
    rw [show (pl + 1) % 65536 = (pl + (1 : Nat)) % 65536 from rfl, spot_at hp (by decide)]
    show (1 : Int) ≤ 1
    decide)
  have key : ∀ (S D : MS), mst hd c own pl = S → Path [c] pl hd 1 S S → w3 S = D → Due ts pl go hd own 1 xs D → ∃ s, Path [c] pl hd 2 ⟨own, none, pl, ""⟩ s ∧ Due ts pl go hd own 1 xs (w3 s) := fun S D e t w q => ⟨S, .cell (k := 0) hp (by decide) (by omega) rfl (by rw [e]; exact t), by rw [w]; exact q⟩
  have Z : ∀ {d : Int}, d = 0 → 0 ≤ d ∧ d ≤ 255 := fun e => by omega
  have W : ∀ {o : List Int} {st : Option (Int × Int)} {hh : Int} {w : Str}, w ≠ "go" → w3 ⟨o, st, hh, w⟩ = ⟨o.take 3, st, hh, w⟩ := fun h => by
    unfold w3
    rw [if_neg h]
  have W' : ∀ {a x : Int} {st : Option (Int × Int)} {hh : Int} {w : Str}, w ≠ "go" → w3 ⟨own.set a.toNat x, st, hh, w⟩ = ⟨(own.take 3).set a.toNat x, st, hh, w⟩ := fun h => by
    rw [W h, take_set3]
  cases h with
  | add hr hs => exact key _ _ (mst4 (regN_0 hr) (regN_0 hs) (Z rfl)) bey (W' (by decide +kernel)) (.add hr hs)
  | take hr hs => exact key _ _ (mst5 (regN_0 hr) (regN_0 hs) (Z rfl)) bey (W' (by decide +kernel)) (.take hr hs)
  | load hr hs h0 h1 =>
    refine key _ _ (mst6 (regN_0 hr) (regN_0 hs) ⟨h0, by omega⟩) bey (W' (by decide +kernel)) ?_
    rw [if_pos (hh _ _ _ (.inl rfl)).symm]
    exact .load hr hs
  | store hr hs h0 h1 => exact key _ _ (mst7 (regN_0 hr) (regN_0 hs) ⟨h0, by omega⟩) bey (W (by decide +kernel)) (.store hr hs)
  | callby hr => exact key _ _ (mst13 (regN_0 hr) (by decide) (Z rfl)) (.said (by decide +kernel)) (W (by decide +kernel)) (.callby hr)
  | out hr => exact key _ _ (mst15 (regN_0 hr) (by decide) (Z rfl)) bey (W out_go) (.out hr)
  | back => exact key _ _ (mst14 (by decide) (by decide) (Z rfl)) bey (W (by decide +kernel)) .back
  | halt => exact key _ _ (mst1 (by decide) (by decide) (Z rfl)) bey (W (by decide +kernel)) .halt
/-- the whole: each row but room, in each form -/
theorem path_row {ts : List Str} {pl go : Int} {far : Bool} {hd : Int × Int} {own : List Int} {xs : List V} {cs : List Int} (hp : 0 ≤ pl ∧ pl ≤ 65535) (hg : 0 ≤ go ∧ go ≤ 65535) (hl : own.length = 4) (hc : CRow ts xs) (nr : hd0 xs ≠ .str "room") (hn : ∀ n, xs.getD 2 .non = .int n → hd0 xs = .str "put" → 0 ≤ n ∧ n ≤ 65535) (h : Cel ts pl go far xs cs)
    (hh : ∀ r s d, (xs = [.str "load", r, s, .int d] ∨ xs = [.str "store", r, s, .int d]) → hd.1 = (gI own (regN s) + d) % 65536)
    (near : far = false → hd0 xs ∈ [V.str "name", .str "jump", .str "ifzero", .str "call"] → ∃ n, (-128 ≤ n ∧ n ≤ 127) ∧ go = (pl + n + 65536) % 65536)
    (out : hd0 xs = .str "jump" ∨ hd0 xs = .str "ifzero" → (cs.length : Int) ≤ (go - pl + 65536) % 65536) : ∃ s, Path cs pl hd (cs.length + 1) ⟨own, none, pl, ""⟩ s ∧ Due ts pl go hd own cs.length xs (w3 s) := by
  have W : ∀ {o : List Int} {st : Option (Int × Int)} {hh : Int} {w : Str}, w ≠ "go" → w3 ⟨o, st, hh, w⟩ = ⟨o.take 3, st, hh, w⟩ := fun h => by
    unfold w3
    rw [if_neg h]
  have t3 : ∀ x, (own.set 3 x).take 3 = own.take 3 := fun x => by
    rw [List.take_set, List.set_eq_of_length_le (by rw [List.length_take]; omega)]
  have W' : ∀ {a x : Int} {st : Option (Int × Int)} {hh : Int} {w : Str}, w ≠ "go" → w3 ⟨own.set a.toNat x, st, hh, w⟩ = ⟨(own.take 3).set a.toNat x, st, hh, w⟩ := fun h => by
    rw [W h, take_set3]
  have ng : ("" : Str) ≠ "go" := by decide +kernel
  have a0 : 0 ≤ aw pl go ∧ aw pl go ≤ 255 := by unfold aw; omega
  have B : ∀ {ls : List Int} {m k : Nat} {own' : List Int} {st : Option (Int × Int)} {w : Str}, ls.length = k → k < 65536 → Path ls pl hd (m + 1) ⟨own', st, (pl + k) % 65536, w⟩ ⟨own', st, (pl + k) % 65536, w⟩ := fun e hk => .beyond (by rw [spot_at hp hk, e]; exact Int.le_refl _)
  cases h with
  | room => exact absurd rfl nr
  | word => cases hc
  | address => cases hc
  | put hr =>
    refine ⟨_, path_put hp (hn _ rfl rfl) (regN_0 hr) hl, ?_⟩
    rw [W' ng]
    exact .put hr
  | one h => exact path_one hp h hh
  | lng h =>
    cases h with
    | name hr ht =>
      refine ⟨_, path_put hp hg (regN_0 hr) hl, ?_⟩
      rw [W' ng]
      exact .name hr ht
    | jump ht =>
      refine ⟨⟨own.set 3 go, none, go, "go"⟩, path_led (k := 0) (m := 1) hp hg hl (by decide) (by omega) rfl rfl rfl ?_, ?_⟩
      · rw [mst12 (by decide) (by decide) (by decide), gI3 hl]
        exact .said (by decide +kernel)
      · unfold w3
        rw [if_pos rfl, t3]
        exact .jump ht
    | call ht =>
      refine ⟨⟨own.set 3 go, none, go, "call"⟩, path_led (k := 0) (m := 1) hp hg hl (by decide) (by omega) rfl rfl rfl ?_, ?_⟩
      · rw [mst13 (by decide) (by decide) (by decide), gI3 hl]
        exact .said (by decide +kernel)
      · rw [W (by decide +kernel), t3]
        exact .call ht
    | @ifzero r t hr ht =>
      by_cases z : gI own (regN r) = 0
      · refine ⟨⟨own.set 3 go, none, go, "go"⟩, .cell (k := 0) hp (by decide) (by omega) rfl ?_, ?_⟩
        · rw [mst9 (regN_0 hr) (by decide) (by decide), if_pos z]
          refine path_led (k := 2) (m := 2) hp hg hl (by decide) (by unfold Kk.nr; rw [if_pos (by decide)]; omega) rfl rfl rfl ?_
          rw [mst12 (by decide) (by decide) (by decide), gI3 hl]
          exact .said (by decide +kernel)
        · have q := Due.ifzero (pl := pl) (go := go) (hd := hd) (own := own) (size := 5) hr ht
          rw [if_pos z] at q
          unfold w3
          rw [if_pos rfl, t3]
          exact q
      · refine ⟨⟨own, none, (pl + (5 : Nat)) % 65536, ""⟩, .cell (k := 0) hp (by decide) (by omega) rfl ?_, ?_⟩
        · rw [mst9 (regN_0 hr) (by decide) (by decide), if_neg z]
          refine .cell (k := 1) hp (by decide) rfl rfl ?_
          rw [mst8 (by decide) (by decide) (by decide)]
          have e : ((pl + 1) % 65536 + Kk.nr 4 + 65536) % 65536 = (pl + (5 : Nat)) % 65536 := by
            unfold Kk.nr
            rw [if_pos (by decide)]
            omega
          rw [e]
          exact B rfl (by decide)
        · have q := Due.ifzero (pl := pl) (go := go) (hd := hd) (own := own) (size := 5) hr ht
          rw [if_neg z] at q
          rw [W ng]
          exact q
  | sht h =>
    have one : ∀ {c : Int} {S D : MS}, mst hd c own pl = S → Path [c] pl hd 1 S S → w3 S = D → Due ts pl go hd own 1 xs D → ∃ s, Path [c] pl hd 2 ⟨own, none, pl, ""⟩ s ∧ Due ts pl go hd own 1 xs (w3 s) := fun {c S D} e t w q => ⟨S, .cell (k := 0) hp (by decide) (by omega) rfl (by rw [e]; exact t), by rw [w]; exact q⟩
    cases h with
    | name hr ht =>
      obtain ⟨n, n1, n2⟩ := near rfl (by simp [hd0])
      refine one (mst11 (regN_0 hr) (by decide) a0) (B (k := 1) rfl (by decide)) (W' ng) ?_
      rw [nears hg.1 hg.2 n1 n2]
      exact .name hr ht
    | jump ht =>
      obtain ⟨n, n1, n2⟩ := near rfl (by simp [hd0])
      refine one (mst8 (by decide) (by decide) a0) (.beyond ?_) (W ng) ?_
      · rw [nears hg.1 hg.2 n1 n2]
        exact out (.inl rfl)
      · rw [nears hg.1 hg.2 n1 n2]
        exact .jump ht
    | call ht =>
      obtain ⟨n, n1, n2⟩ := near rfl (by simp [hd0])
      refine one (mst10 (by decide) (by decide) a0) (.said (by decide +kernel)) (W (by decide +kernel)) ?_
      rw [nears hg.1 hg.2 n1 n2]
      exact .call ht
    | @ifzero r t hr ht =>
      obtain ⟨n, n1, n2⟩ := near rfl (by simp [hd0])
      refine one (mst9 (regN_0 hr) (by decide) a0) ?_ (W ng) ?_
      · by_cases z : gI own (regN r) = 0
        · rw [if_pos z, nears hg.1 hg.2 n1 n2]
          exact .beyond (out (.inr rfl))
        · rw [if_neg z]
          exact B (k := 1) rfl (by decide)
      · rw [nears hg.1 hg.2 n1 n2]
        exact .ifzero hr ht
/-- a stub leads to what its slot holds -/
theorem path_stub {pl g x : Int} {own : List Int} (hp : 0 ≤ pl ∧ pl ≤ 65535) (hg : 0 ≤ g ∧ g ≤ 65535) (hl : own.length = 4) : Path [dg 2 3 0 (pH g), dg 3 3 0 (pL g), dg 6 3 3 0, dg 12 3 0 0] pl (g, x) 5 ⟨own, none, pl, ""⟩ ⟨own.set 3 x, none, x, "go"⟩ := by
  refine path_led (k := 0) (m := 2) hp hg hl (by decide) (by omega) rfl rfl rfl ?_
  rw [mst6 (by decide) (by decide) (by decide), gI3 hl, if_pos (by show (g + 0) % 65536 = g; omega)]
  refine .cell (k := 3) hp (by decide) (by omega) rfl ?_
  rw [show (own.set 3 g).set (Int.toNat 3) x = own.set 3 x from List.set_set ..]
  rw [mst12 (by decide) (by decide) (by decide), gI3 hl]
  exact .said (by decide +kernel)

theorem reg_dig {r : V} (h : r ∈ regs) : ∃ (z : Str) (c : Nat), r = .str z ∧ z.length ≤ sizeLine ∧ atI z.cps.toList 1 = some c ∧ PySem.intText? (⟨#[c]⟩ : Str) = some (regN r) ∧ (⟨#[c]⟩ : Str).length ≤ 640 := by
  simp only [regs, List.mem_cons, List.not_mem_nil, or_false] at h
  rcases h with rfl | rfl | rfl
  · exact ⟨_, 48, rfl, by decide +kernel, by decide +kernel, by decide +kernel, by decide +kernel⟩
  · exact ⟨_, 49, rfl, by decide +kernel, by decide +kernel, by decide +kernel, by decide +kernel⟩
  · exact ⟨_, 50, rfl, by decide +kernel, by decide +kernel, by decide +kernel, by decide +kernel⟩
theorem reg_mem {x : V} (h : inV x regs = true) (f : flatV x = true) : x ∈ regs := by
  cases x with
  | str t =>
    have q : ((Str.ofString "r0" == t) || ((Str.ofString "r1" == t) || ((Str.ofString "r2" == t) || false))) = true := h
    rw [Bool.or_false, Bool.or_eq_true, Bool.or_eq_true, beq_iff_eq, beq_iff_eq, beq_iff_eq] at q
    rcases q with rfl | rfl | rfl <;> decide +kernel
  | non => cases h
  | bl k => cases h
  | int i => cases h
  | _ => cases f
theorem iteFb0 {A B : Prop} {c : Bool} (h : c = false) (x : B) : if c = true then A else B := by
  rw [h]
  exact iteF x
theorem iteTb0 {A B : Prop} {c : Bool} (h : c = true) (x : A) : if c = true then A else B := by
  rw [h]
  exact iteT x
def regL (r : List V) : List Int := (r.filter fun x => inV x regs).map regN ++ [0, 0]
theorem regL_0 : regL [] = [0, 0] := rfl
theorem regL_c {y : V} {l : List V} (h : y ∈ regs) : regL (y :: l) = regN y :: regL l := by
  unfold regL
  rw [List.filter_cons, (reg_in h).1, if_pos rfl]
  rfl
theorem regL_at (r : List V) : atI ((regL r).map V.int) 0 = some (.int ((regL r).getD 0 0)) ∧ atI ((regL r).map V.int) 1 = some (.int ((regL r).getD 1 0)) := by
  have l : 2 ≤ (regL r).length := by
    unfold regL
    rw [List.length_append]
    show 2 ≤ _ + 2
    omega
  match hr : regL r, l with
  | x :: y :: t, _ => exact ⟨atI_nat (j := 0) rfl, atI_nat (j := 1) rfl⟩

theorem AnyRow.flat {ts : List Str} {xs : List V} (h : AnyRow ts xs) : ∀ x ∈ xs, flatV x = true := by
  have R : ∀ {r : V}, r ∈ regs → flatV r = true := fun m => (reg_in m).2
  rcases h with h | h
  · cases h with
    | put hr => exact memc rfl (memc (R hr) (mem1 rfl))
    | name hr => exact memc rfl (memc (R hr) (mem1 rfl))
    | ifzero hr => exact memc rfl (memc (R hr) (mem1 rfl))
    | add hr hs => exact memc rfl (memc (R hr) (mem1 (R hs)))
    | take hr hs => exact memc rfl (memc (R hr) (mem1 (R hs)))
    | load hr hs => exact memc rfl (memc (R hr) (memc (R hs) (mem1 rfl)))
    | store hr hs => exact memc rfl (memc (R hr) (memc (R hs) (mem1 rfl)))
    | jump => exact memc rfl (mem1 rfl)
    | call => exact memc rfl (mem1 rfl)
    | callby hr => exact memc rfl (mem1 (R hr))
    | out hr => exact memc rfl (mem1 (R hr))
    | back => exact mem1 rfl
    | halt => exact mem1 rfl
    | room => exact memc rfl (mem1 rfl)
  · cases h with
    | word => exact memc rfl (mem1 rfl)
    | address => exact memc rfl (mem1 rfl)
    | room => exact memc rfl (mem1 rfl)
theorem AnyRow.short {ts : List Str} {xs : List V} (h : AnyRow ts xs) : ∃ (u : Str) (r : List V), xs = .str u :: r ∧ r.length ≤ 3 := by
  rcases h with h | h
  · cases h <;> exact ⟨_, _, rfl, by simp⟩
  · cases h <;> exact ⟨_, _, rfl, by simp⟩

section
variable {P : Program} {w : World} {K : PySem.W.Frag} {mg : Str → Option Value} {base : Heap} {Z : Fs}
/-! ### a closing row -/
def sp_law_last_row : Sp := fun vs H Q _ => ∃ (b l t : Addr) (ts : List Str), vs = [.ref b, .ref t] ∧ Bag H b l ∧ Tls H b t ts ∧ ∀ (H' : Hp) (a : Addr) (xs : List V), Stp b H H' → Bag H' b l → H' a = some (.tup xs) → a ≠ b → CRow ts xs → Q (.ref a) H'
theorem ok_law_last_row (T : Txt K w mg Z) : FnOk P w K mg base CX0 3 Z.a_law_last_row Z.d_law_last_row ["_law_bag_here", "_law_titles_here"] sp_law_last_row := by
  have G_law_of : FnOk P w K mg base CX0 2 Z.a_law_of Z.d_law_of ["_law_bag_here", "_law_things"] (sp_law_of K) := ok_law_of T
  refine T.F_law_last_row.ok sc_law_last_row (fun vs H Q E h => ?_) (fun cdv A outer s H vs Q E hr h => ?_)
  · obtain ⟨b, l, t, ts, rfl, _⟩ := h
    rfl
  · obtain ⟨b, l, t, ts, rfl, B, TT, k⟩ := h
    refine ⟨_, (pss_one (ps_ret (pe_call G_law_of (hr.mono (by omega)) (by rfl) T.m_law_of T.F_law_of.kp T.b_law_of .nil pass0 (pa_cons (pv 0) (pa_cons (pe_lst (pa_cons (pe_tup (pa_cons pe_str (pa_cons (pe_call G_law_of (hr.mono (by omega)) (by rfl) T.m_law_of T.F_law_of.kp T.b_law_of .nil pass0 (pa_cons (pv 0) (pa_cons (pv 1) pa_nil))) pa_nil))) (pa_cons (pe_tup (pa_cons pe_str pa_nil)) (pa_cons (pe_tup (pa_cons pe_str pa_nil)) pa_nil)))) pa_nil))))), ?_⟩
    refine ⟨.ref b, rfl, .ref b, rfl, .ref t, rfl, b, l, .ref t, _, rfl, B, TT.thg, fun H0 u s0 B0 hu => ?_⟩
    obtain ⟨z, rfl, hz⟩ := hu
    refine ⟨(by show 2 ≤ sizeLine; decide), fun p1 h1 => ?_⟩
    have n1 := B0.ne h1
    have s1 : Same H0 (upd H0 p1 (.tup [V.str "jump", V.str z])) := Same.new h1
    have e1 : (upd H0 p1 (.tup [V.str "jump", V.str z])) p1 = some (.tup [V.str "jump", V.str z]) := upd_same
    generalize upd H0 p1 (.tup [V.str "jump", V.str z]) = H1 at s1 e1 ⊢
    have B1 := B0.same s1
    refine ⟨(by show 1 ≤ sizeLine; decide), fun p2 h2 => ?_⟩
    have n2 := B1.ne h2
    have s2 : Same H1 (upd H1 p2 (.tup [V.str "halt"])) := Same.new h2
    have e2 : (upd H1 p2 (.tup [V.str "halt"])) p2 = some (.tup [V.str "halt"]) := upd_same
    generalize upd H1 p2 (.tup [V.str "halt"]) = H2 at s2 e2 ⊢
    have B2 := B1.same s2
    refine ⟨(by show 1 ≤ sizeLine; decide), fun p3 h3 => ?_⟩
    have n3 := B2.ne h3
    have s3 : Same H2 (upd H2 p3 (.tup [V.str "back"])) := Same.new h3
    have e3 : (upd H2 p3 (.tup [V.str "back"])) p3 = some (.tup [V.str "back"]) := upd_same
    generalize upd H2 p3 (.tup [V.str "back"]) = H3 at s3 e3 ⊢
    have B3 := B2.same s3
    refine ⟨(by show 3 ≤ sizeLine; decide), fun q4 hq4 => ?_⟩
    have f2 := s3 _ _ e2
    have f1 := s3 _ _ (s2 _ _ e1)
    refine ⟨b, l, .ref q4, fun v => ∃ (a : Addr) (xs : List V), v = .ref a ∧ H3 a = some (.tup xs) ∧ a ≠ b ∧ CRow ts xs, rfl, B3.new hq4, .lst (B3.ne hq4) (SqL.of upd_same) (by show 0 < 3; decide) (by show 3 ≤ 100000; decide) (memc ⟨_, _, rfl, f1, n1, .jump hz⟩ (memc ⟨_, _, rfl, f2, n2, .halt⟩ (mem1 ⟨_, _, rfl, e3, n3, .back⟩))), fun H5 u s5 B5 hu => ?_⟩
    obtain ⟨a, xs, rfl, ea, na, hx⟩ := hu
    exact k _ a xs (((s0.trans (Same.stp ((s1.trans s2).trans s3))).trans (Stp.new hq4)).trans s5) B5 (s5 _ _ na ((Stp.new hq4) _ _ na ea)) na hx
end

theorem CRow.any {ts : List Str} {xs : List V} (h : CRow ts xs) : AnyRow ts xs := .inl h
theorem t3_at {own : List Int} {i : Int} (hl : own.length = 4) (h : 0 ≤ i ∧ i ≤ 2) : atI ((own.take 3).map V.int) i = some (.int (gI own i)) ∧ ixN ((own.take 3).map V.int).length i = some i.toNat := by
  have l3 : (own.take 3).length = 3 := by rw [List.length_take]; omega
  obtain ⟨g0, g1⟩ := atI_int2 (cs := own.take 3) h.1 (by omega)
  refine ⟨?_, g1⟩
  rw [g0]
  unfold gI
  rw [List.getD_eq_getElem?_getD, List.getD_eq_getElem?_getD, List.getElem?_take_of_lt (show i.toNat < 3 by omega)]
theorem atI_app {xs ys : List V} {i : Int} {v : V} (h : atI xs i = some v) (h0 : 0 ≤ i) : atI (xs ++ ys) i = some v := by
  obtain ⟨k, rfl⟩ := Int.eq_ofNat_of_zero_le h0
  by_cases hk : k < xs.length
  · have q : atI xs ((k : Nat) : Int) = some xs[k] := atI_nat (List.getElem?_eq_getElem hk)
    rw [q] at h
    cases h
    exact atI_nat (by rw [List.getElem?_append_left hk]; exact List.getElem?_eq_getElem hk)
  · have q : ¬ ((k : Int) < (xs.length : Int)) := by omega
    unfold atI ixN at h
    rw [if_pos h0, if_neg q] at h
    cases h
theorem regL_n {t : Str} (h : Nm t) : regL [.str t] = [0, 0] := by
  unfold regL
  rw [List.filter_cons, nm_noreg h]
  rfl
theorem Wd.take {own : List Int} (h : ∀ y ∈ own, Wd y) : ∀ y ∈ own.take 3, Wd y := fun y m => h y (List.mem_of_mem_take m)
/-- the last word, out of the table -/
def wv (u : Str) (x : Int) : Str := if u = "store" then "store" else if u = "call" then "call" else if u = "callby" then "call" else if u = "halt" then "halt" else if u = "back" then "back" else if u = "out" then ("out " : Str) ++ toString x else ""
section
variable {P : Program} {w : World} {K : PySem.W.Frag} {mg : Str → Option Value} {base : Heap} {Z : Fs}
def sp_law_due (K : PySem.W.Frag) : Sp := fun vs H Q _ => ∃ (a r h : Addr) (xs : List V) (ts : List Str) (pl go size : Int) (own : List Int) (hd : Int × Int) (D : MS), vs = [.ref a, .int pl, .int go, .ref r, .ref h, .int size] ∧ SqT K H a xs ∧ (∀ z ∈ ts, Nm z) ∧ CRow ts xs ∧ H r = some (.lst (own.map V.int)) ∧ SqT K H h [.int hd.1, .int hd.2] ∧ own.length = 4 ∧ (∀ y ∈ own, Wd y) ∧ Wd hd.2 ∧ Wd go ∧ (∀ n, xs.getD 2 .non = .int n → hd0 xs = .str "put" → Wd n) ∧ Due ts pl go hd own size xs D ∧
  ∀ (H' : Hp) (p q : Addr), Same H H' → H p = none → H' p = some (.tup [.ref q, .int D.here, .str D.way]) → OwnAt H' q D.own D.st → Q (.ref p) H'
theorem ok_law_due (T : Txt K w mg Z) : FnOk P w K mg base CX0 1 Z.a_law_due Z.d_law_due ["_law_one", "_law_place_y", "_law_goal", "_law_registers", "_law_held", "_law_size"] (sp_law_due K) := by
  refine T.F_law_due.ok sc_law_due (fun vs H Q E h => ?_) (fun cdv A outer s H vs Q E hr h => ?_)
  · obtain ⟨a, r, h, xs, ts, pl, go, size, own, hd, D, rfl, _⟩ := h
    rfl
  · obtain ⟨a, rg, h, xs, ts, pl, go, size, own, hd, D, rfl, hS, hz, hc, er, eh, l4, wo, wh, wg, wn, due, k⟩ := h
    refine ⟨_, (pss_cons (ps_par (i := 6) (j := 7) (by rfl) sc_law_due.nd rfl rfl (by decide) rfl rfl (pa_cons (pe_slice sl_list (pe_callTy call_list_of (by rfl) T.n_list boot_list (pa_cons (pv 3) pa_nil)) po_none (po_some pe_int)) (pa_cons (pe_op op_mod (pe_callTy call_int1 (by rfl) T.n_int boot_int (pa_cons (pe_op op_add (pv 1) (pv 5)) pa_nil)) pe_int) pa_nil)) (by rfl))
      (pss_cons (ps_set (i := 8) sc_law_due.nd rfl (Or.inl rfl) (pe_op op_cat (pe_lc (own := [("_law_item", 9)]) (g := gName 9) rfl sc_law_due.nd (pi_tup (pe_slice sl_tup (pv 0) (po_some pe_int) po_none)) (blkOk_by (N := N_law_due) (sc := defScope s_law_due) (by decide +kernel)) (fun _ _ _ _ _ => pg_name (i := 9) sc_law_due.nd rfl (Or.inl rfl)) (fun _ _ _ _ _ => pts_one (pt_cmpR (op_in_seq : OpR _ _ (rIn K false)) (pv 9) (pe_lst (pa_cons pe_str (pa_cons pe_str (pa_cons pe_str pa_nil)))) (by rfl))) (fun _ _ _ _ _ => (pe_callTy call_int_str (by rfl) T.n_int boot_int (pa_cons (pe_ix ix_str (pv 9) pe_int (fun _ _ => rfl)) pa_nil)))) (pe_lst (pa_cons pe_int (pa_cons pe_int pa_nil)))))
      (pss_cons (ps_par3 (i := 10) (j := 11) (l := 12) (by rfl) sc_law_due.nd rfl rfl rfl (by decide) (by decide) (by decide) rfl rfl rfl (pa_cons (pe_ix ix_list (pv 8) pe_int (fun _ _ => rfl)) (pa_cons (pe_ix ix_list (pv 8) pe_int (fun _ _ => rfl)) (pa_cons pe_str pa_nil))) (by rfl))
      (pss_cons (ps_if (pt_cmpR op_eq (pe_ix ix_tup (pv 0) pe_int (fun _ _ => rfl)) pe_str (nomark _)) (pss_one (ps_asg (pe_ix ix_tup (pv 0) pe_int (fun _ _ => rfl)) (pg_sub (pv 6) (pv 10) set_list))) pss_nil)
      (pss_cons (ps_if (pt_cmpR op_eq (pe_ix ix_tup (pv 0) pe_int (fun _ _ => rfl)) pe_str (nomark _)) (pss_one (ps_asg (pv 2) (pg_sub (pv 6) (pv 10) set_list))) pss_nil)
      (pss_cons (ps_if (pt_cmpR op_eq (pe_ix ix_tup (pv 0) pe_int (fun _ _ => rfl)) pe_str (nomark _)) (pss_one (ps_asg (pe_op op_mod (pe_callTy call_int1 (by rfl) T.n_int boot_int (pa_cons (pe_op op_add (pe_ix ix_list (pv 6) (pv 10) (fun _ _ => rfl)) (pe_ix ix_list (pv 6) (pv 11) (fun _ _ => rfl))) pa_nil)) pe_int) (pg_sub (pv 6) (pv 10) set_list))) pss_nil)
      (pss_cons (ps_if (pt_cmpR op_eq (pe_ix ix_tup (pv 0) pe_int (fun _ _ => rfl)) pe_str (nomark _)) (pss_one (ps_asg (pe_op op_mod (pe_callTy call_int1 (by rfl) T.n_int boot_int (pa_cons (pe_op op_add (pe_op op_sub (pe_ix ix_list (pv 6) (pv 10) (fun _ _ => rfl)) (pe_ix ix_list (pv 6) (pv 11) (fun _ _ => rfl))) pe_int) pa_nil)) pe_int) (pg_sub (pv 6) (pv 10) set_list))) pss_nil)
      (pss_cons (ps_if (pt_cmpR op_eq (pe_ix ix_tup (pv 0) pe_int (fun _ _ => rfl)) pe_str (nomark _)) (pss_one (ps_asg (pe_ix ix_tup (pv 4) pe_int (fun _ _ => rfl)) (pg_sub (pv 6) (pv 10) set_list))) pss_nil)
      (pss_cons (ps_if (pt_cmpR op_eq (pe_ix ix_tup (pv 0) pe_int (fun _ _ => rfl)) pe_str (nomark _)) (pss_one (ps_set (i := 6) sc_law_due.nd rfl (Or.inl rfl) (pe_op op_cat (pv 6) (pe_lst (pa_cons (pe_tup (pa_cons (pe_op op_mod (pe_callTy call_int1 (by rfl) T.n_int boot_int (pa_cons (pe_op op_add (pe_ix ix_list (pv 6) (pv 11) (fun _ _ => rfl)) (pe_ix ix_tup (pv 0) pe_int (fun _ _ => rfl))) pa_nil)) pe_int) (pa_cons (pe_ix ix_list (pv 6) (pv 10) (fun _ _ => rfl)) pa_nil))) pa_nil))))) pss_nil)
      (pss_cons (ps_if (PW.pt (pw_or (pt_cmpR op_eq (pe_ix ix_tup (pv 0) pe_int (fun _ _ => rfl)) pe_str (nomark _)) (pw_or (PW.pt (pw_and (pt_cmpR op_eq (pe_ix ix_tup (pv 0) pe_int (fun _ _ => rfl)) pe_str (nomark _)) (pw_and1 (pt_cmpR op_eq (pe_ix ix_list (pv 6) (pv 10) (fun _ _ => rfl)) pe_int (nomark _))))) (pw_or1 (pt_cmpR op_eq (pe_ix ix_tup (pv 0) pe_int (fun _ _ => rfl)) pe_str (nomark _)))))) (pss_one (ps_set (i := 7) sc_law_due.nd rfl (Or.inl rfl) (pv 2))) pss_nil)
      (pss_cons (ps_if (pt_cmpR op_eq (pe_ix ix_tup (pv 0) pe_int (fun _ _ => rfl)) pe_str (nomark _)) (pss_one (ps_set (i := 7) sc_law_due.nd rfl (Or.inl rfl) (pe_ix ix_list (pv 6) (pv 10) (fun _ _ => rfl)))) pss_nil)
      (pss_cons (ps_set (i := 13) sc_law_due.nd rfl (Or.inl rfl) (pe_disp (pps_cons pe_str pe_str (pps_cons pe_str pe_str (pps_cons pe_str pe_str (pps_cons pe_str pe_str (pps_cons pe_str pe_str (pps_cons pe_str (pe_op op_add_str pe_str (pe_callTy call_str_int (by rfl) T.n_str boot_str (pa_cons (pe_ix ix_list (pv 6) (pv 10) (fun _ _ => rfl)) pa_nil))) pps_nil)))))) (by rfl) (by rfl) (fun z => by cases z) (by decide)))
      (pss_one (ps_ret (pe_tup (pa_cons (pv 6) (pa_cons (pv 7) (pa_cons (pe_dget2 (hu_of hr) (pv 13) (pe_ix ix_tup (pv 0) pe_int (fun _ _ => rfl)) (pv 12) ⟨rfl, rfl, rfl, rfl⟩) pa_nil)))))))))))))))))), ?_⟩
    obtain ⟨u, r, rfl, lr⟩ := hc.any.short
    have fl := hc.any.flat
    have hS00 := hS
    have eh00 := eh
    -- own, behind
    refine ⟨.ref rg, rfl, rg, _, rfl, .inl (SqL.of er), fun q0 h0 => ?_⟩
    have s0 : Same H (upd H q0 (.lst (own.map V.int))) := Same.new h0
    have e0 : (upd H q0 (.lst (own.map V.int))) q0 = some (.lst (own.map V.int)) := upd_same
    generalize upd H q0 (.lst (own.map V.int)) = H0 at s0 e0 ⊢
    refine ⟨3, rfl, q0, _, rfl, SqL.of e0, fun q hq => ?_⟩
    rw [show cutV (own.map V.int) none (some 3) = (own.take 3).map V.int from cut_ints own 3]
    have s1 : Same H0 (upd H0 q (.lst ((own.take 3).map V.int))) := Same.new hq
    have eq : (upd H0 q (.lst ((own.take 3).map V.int))) q = some (.lst ((own.take 3).map V.int)) := upd_same
    generalize upd H0 q (.lst ((own.take 3).map V.int)) = H1 at s1 eq ⊢
    have s01 := s0.trans s1
    have zq : H q = none := s0.free hq
    refine ⟨.int pl, rfl, .int size, rfl, _, _, rfl, rfl, .inl ⟨_, rfl, _, _, rfl, rfl, (by show (0 : Int) < 65536; decide), _, _, rfl, ?_⟩⟩
    replace hS := Same.sqT s01 hS
    replace eh := Same.sqT s01 eh
    -- numbers
    refine ⟨.ref a, rfl, 1, rfl, a, _, rfl, hS, ?_, fun pc hpc => ?_⟩
    · rintro ⟨z, _⟩
      rw [show HT.sIx (V.str u :: r).length 0 (some 1) = min 1 (V.str u :: r).length from HT.sIx_nat _ 0 1, List.length_cons] at z
      omega
    rw [show cutV (V.str u :: r) (some 1) none = r from by
      unfold cutV
      rw [show HT.sIx (V.str u :: r).length 0 (some 1) = min 1 (V.str u :: r).length from HT.sIx_nat _ 0 1, HT.sIx_none]
      rw [show min 1 (V.str u :: r).length = 1 by rw [List.length_cons]; omega]
      show (r.take ((V.str u :: r).length - 1)) = r
      rw [List.length_cons, Nat.add_sub_cancel, List.take_length]]
    have s2 : Same H1 (upd H1 pc (.tup r)) := Same.new hpc
    have ec : (upd H1 pc (.tup r)) pc = some (.tup r) := upd_same
    generalize upd H1 pc (.tup r) = H2 at s2 ec ⊢
    refine ⟨pc, rfl, ⟨_, SqT.of ec⟩, fun D' hD => ?_⟩
    refine lc_it (walk_tup (K := K) (xs := r)) (fun i H' => Same H2 H' ∧ H' D' = some (.lst (((r.take i).filter fun x => inV x regs).map fun x => V.int (regN x)))) ⟨Same.new hD, upd_same⟩ (fun i H' _ q => SqT.of (q.1 _ _ ec)) ?_ ?_
    · rintro i' v K1 K2 hi' ⟨t1, e1⟩ ⟨rfl, hv⟩
      have fv := fl v (List.mem_cons_of_mem _ (List.mem_of_getElem? hv))
      have tk : r.take (i' + 1) = r.take i' ++ [v] := by rw [List.take_add_one, hv]; rfl
      refine ⟨rfl, v, rfl, (by show 3 ≤ sizeLine; decide), fun p3 h3 => ⟨p3, regs, rfl, .inl (SqL.of upd_same), fv, rfl, _, rfl, ?_⟩⟩
      show if inV v regs = true then _ else _
      have t3 := t1.trans (Same.new (o := .lst [V.str "r0", V.str "r1", V.str "r2"]) h3)
      have e3 := Same.new (o := .lst [V.str "r0", V.str "r1", V.str "r2"]) h3 _ _ e1
      cases hq' : inV v regs with
      | false =>
        refine iteF ⟨t3, e3.trans ?_⟩
        rw [tk, List.filter_append]
        simp [hq']
      | true =>
        obtain ⟨z, c, rfl, d1, d2, d3, d4⟩ := reg_dig (reg_mem hq' fv)
        refine iteT ⟨.str z, rfl, z, 1, c, rfl, rfl, d1, d2, _, _, rfl, d3, d4, _, e3, ?_, Same.put t3 hD, ?_⟩
        · rw [List.length_map]
          have q1 := List.length_filter_le (fun x => inV x regs) (r.take i')
          rw [List.length_take] at q1
          exact Nat.lt_of_le_of_lt (show _ ≤ 3 by omega) (by decide)
        · rw [upd_same, tk, List.filter_append, List.map_append]
          simp [hq']
    rintro K1 ⟨t1, e1⟩
    rw [List.take_length] at e1
    refine ⟨(by show 2 ≤ sizeLine; decide), fun q2 hq2 => ?_⟩
    have s2' := Same.new (o := .lst [V.int 0, V.int 0]) hq2
    refine ⟨D', q2, _, _, rfl, rfl, s2' _ _ e1, upd_same, ?_, fun c hc' => ?_⟩
    · rw [List.length_map]
      have q1 := List.length_filter_le (fun x => inV x regs) r
      exact Nat.le_trans (show _ ≤ 5 by show _ + 2 ≤ 5; omega) (by decide)
    have tt : Same H1 (upd (upd K1 q2 (.lst [V.int 0, V.int 0])) c (.lst ((r.filter fun x => inV x regs).map (fun x => V.int (regN x)) ++ [V.int 0, V.int 0]))) := ((s2.trans t1).trans s2').trans (Same.new hc')
    have eN : (upd (upd K1 q2 (.lst [V.int 0, V.int 0])) c (.lst ((r.filter fun x => inV x regs).map (fun x => V.int (regN x)) ++ [V.int 0, V.int 0]))) c = some (.lst ((regL r).map V.int)) := by
      rw [upd_same]
      unfold regL
      rw [List.map_append, List.map_map]
      rfl
    generalize upd (upd K1 q2 (.lst [V.int 0, V.int 0])) c (.lst ((r.filter fun x => inV x regs).map (fun x => V.int (regN x)) ++ [V.int 0, V.int 0])) = G at tt eN ⊢
    clear s2 s2' e1 t1 ec hD hpc hc' hq2 s1
    obtain ⟨g0, g1⟩ := regL_at r
    refine ⟨.ref c, rfl, c, _, 0, _, rfl, rfl, SqL.of eN, g0, .ref c, rfl, c, _, 1, _, rfl, rfl, SqL.of eN, g1, _, _, _, rfl, ?_⟩
    clear g0 g1 eN
    rw [show (List.getD (regL r) 0 0) = (regL r).getD 0 0 from rfl]
    generalize hA : (regL r).getD 0 0 = A0
    generalize hB : (regL r).getD 1 0 = B0
    replace hS := Same.sqT tt hS
    replace eh := Same.sqT tt eh
    replace eq := tt _ _ eq
    have sHG : Same H G := s01.trans tt
    -- KINDS
    cases due with
    | @add r1 r2 hr hs =>
      obtain rfl : A0 = regN r1 := by rw [← hA, regL_c hr]; rfl
      obtain ⟨gA, iA⟩ := t3_at l4 (regN_2 hr)
      obtain rfl : B0 = regN r2 := by rw [← hB, regL_c hr, regL_c hs]; rfl
      obtain ⟨gB, iB⟩ := t3_at l4 (regN_2 hs)
      refine ⟨.ref a, rfl, a, _, 0, _, rfl, rfl, hS, atI_nat (j := 0) rfl, rfl, _, rfl, iteN (by decide +kernel) ?_⟩
      refine ⟨.ref a, rfl, a, _, 0, _, rfl, rfl, hS, atI_nat (j := 0) rfl, rfl, _, rfl, iteN (by decide +kernel) ?_⟩
      refine ⟨.ref a, rfl, a, _, 0, _, rfl, rfl, hS, atI_nat (j := 0) rfl, rfl, _, rfl, iteY (by decide +kernel) ?_⟩
      refine ⟨.ref q, rfl, _, rfl, q, _, _, _, rfl, rfl, SqL.of eq, gA, .ref q, rfl, _, rfl, q, _, _, _, rfl, rfl, SqL.of eq, gB, _, _, rfl, rfl, .inl ⟨_, rfl, _, _, rfl, rfl, (by show (0 : Int) < 65536; decide), .ref q, rfl, _, rfl, q, _, _, _, rfl, rfl, eq, iA, ?_⟩⟩
      have eQ : (upd G q (.lst (((own.take 3).map V.int).set (regN r1).toNat (.int ((gI own (regN r1) + gI own (regN r2)) % 65536))))) q = some (.lst (((own.take 3).set (regN r1).toNat ((gI own (regN r1) + gI own (regN r2)) % 65536)).map V.int)) := by rw [upd_same, List.map_set]
      have sH1 : Same H (upd G q (.lst (((own.take 3).map V.int).set (regN r1).toNat (.int ((gI own (regN r1) + gI own (regN r2)) % 65536))))) := Same.put sHG zq
      generalize upd G q (.lst (((own.take 3).map V.int).set (regN r1).toNat (.int ((gI own (regN r1) + gI own (regN r2)) % 65536)))) = G1 at eQ sH1 ⊢
      have hS := Same.sqT sH1 hS00
      refine ⟨.ref a, rfl, a, _, 0, _, rfl, rfl, hS, atI_nat (j := 0) rfl, rfl, _, rfl, iteN (by decide +kernel) ?_⟩
      refine ⟨.ref a, rfl, a, _, 0, _, rfl, rfl, hS, atI_nat (j := 0) rfl, rfl, _, rfl, iteN (by decide +kernel) ?_⟩
      refine ⟨.ref a, rfl, a, _, 0, _, rfl, rfl, hS, atI_nat (j := 0) rfl, rfl, _, rfl, iteN (by decide +kernel) ?_⟩
      refine ⟨.ref a, rfl, a, _, 0, _, rfl, rfl, hS, atI_nat (j := 0) rfl, rfl, _, rfl, iteN (by decide +kernel) ⟨.ref a, rfl, a, _, 0, _, rfl, rfl, hS, atI_nat (j := 0) rfl, rfl, _, rfl, iteN (by decide +kernel) ⟨.ref a, rfl, a, _, 0, _, rfl, rfl, hS, atI_nat (j := 0) rfl, rfl, _, rfl, iteN (by decide +kernel) ?_⟩⟩⟩
      refine ⟨.ref a, rfl, a, _, 0, _, rfl, rfl, hS, atI_nat (j := 0) rfl, rfl, _, rfl, iteN (by decide +kernel) ?_⟩
      obtain ⟨X0, ax, wx⟩ : ∃ X0, atI (((own.take 3).set (regN r1).toNat ((gI own (regN r1) + gI own (regN r2)) % 65536)).map V.int) (regN r1) = some (.int X0) ∧ Wd X0 := ⟨_, (atI_int2 (cs := (own.take 3).set (regN r1).toNat ((gI own (regN r1) + gI own (regN r2)) % 65536)) (regN_0 hr).1 (by rw [List.length_set, List.length_take]; have := regN_2 hr; omega)).1, Wd.get (Wd.set (Wd.take wo) (Wd.mod _)) (regN_0 hr).1 (by rw [List.length_set, List.length_take]; have := regN_2 hr; omega)⟩
      refine fun d hd' => ?_
      have sd : Same G1 (upd G1 d (.dK [])) := Same.new hd'
      refine ⟨.ref q, rfl, _, rfl, q, _, _, _, rfl, rfl, SqL.of (sd _ _ eQ), ax, X0, rfl, wx.log, _, _, rfl, rfl, out_len wx, ?_⟩
      refine ⟨upd_same, [(.inr "store", .str "store"), (.inr "call", .str "call"), (.inr "callby", .str "call"), (.inr "halt", .str "halt"), (.inr "back", .str "back"), (.inr "out", .str (("out " : Str) ++ toString X0))], rfl, (by show 6 ≤ 15; decide), ?_⟩
      have se : Same G1 (upd (upd G1 d (.dK [])) d (.dK (mergeK [] [(.inr "store", .str "store"), (.inr "call", .str "call"), (.inr "callby", .str "call"), (.inr "halt", .str "halt"), (.inr "back", .str "back"), (.inr "out", .str (("out " : Str) ++ toString X0))]))) := Same.put sd hd'
      have ed : (upd (upd G1 d (.dK [])) d (.dK (mergeK [] [(.inr "store", .str "store"), (.inr "call", .str "call"), (.inr "callby", .str "call"), (.inr "halt", .str "halt"), (.inr "back", .str "back"), (.inr "out", .str (("out " : Str) ++ toString X0))]))) d = some (.dK (mergeK [] [(.inr "store", .str "store"), (.inr "call", .str "call"), (.inr "callby", .str "call"), (.inr "halt", .str "halt"), (.inr "back", .str "back"), (.inr "out", .str (("out " : Str) ++ toString X0))])) := upd_same
      generalize upd (upd G1 d (.dK [])) d (.dK (mergeK [] [(.inr "store", .str "store"), (.inr "call", .str "call"), (.inr "callby", .str "call"), (.inr "halt", .str "halt"), (.inr "back", .str "back"), (.inr "out", .str (("out " : Str) ++ toString X0))])) = GD at se ed ⊢
      have sF := sH1.trans se
      refine ⟨_, rfl, _, rfl, .ref d, rfl, d, rfl, .inl ⟨_, .inl ed⟩, .ref a, rfl, a, _, 0, _, rfl, rfl, Same.sqT se hS, atI_nat (j := 0) rfl, _, rfl, _, DGet.k (k := .inr "add") ed, (by show 3 ≤ sizeLine; decide), fun p hp => ?_⟩
      exact k _ p q (sF.trans (Same.new hp)) (sF.free hp) upd_same (se _ _ eQ |> Same.new hp _ _)
    | @put r1 n hr =>
      obtain rfl : A0 = regN r1 := by rw [← hA, regL_c hr]; rfl
      obtain ⟨gA, iA⟩ := t3_at l4 (regN_2 hr)
      refine ⟨.ref a, rfl, a, _, 0, _, rfl, rfl, hS, atI_nat (j := 0) rfl, rfl, _, rfl, iteY (by decide +kernel) ?_⟩
      refine ⟨.ref a, rfl, a, _, 2, _, rfl, rfl, hS, atI_nat (j := 2) rfl, .ref q, rfl, _, rfl, q, _, _, _, rfl, rfl, eq, iA, ?_⟩
      have eQ : (upd G q (.lst (((own.take 3).map V.int).set (regN r1).toNat (.int (n))))) q = some (.lst (((own.take 3).set (regN r1).toNat (n)).map V.int)) := by rw [upd_same, List.map_set]
      have sH1 : Same H (upd G q (.lst (((own.take 3).map V.int).set (regN r1).toNat (.int (n))))) := Same.put sHG zq
      generalize upd G q (.lst (((own.take 3).map V.int).set (regN r1).toNat (.int (n)))) = G1 at eQ sH1 ⊢
      have hS := Same.sqT sH1 hS00
      refine ⟨.ref a, rfl, a, _, 0, _, rfl, rfl, hS, atI_nat (j := 0) rfl, rfl, _, rfl, iteN (by decide +kernel) ?_⟩
      refine ⟨.ref a, rfl, a, _, 0, _, rfl, rfl, hS, atI_nat (j := 0) rfl, rfl, _, rfl, iteN (by decide +kernel) ?_⟩
      refine ⟨.ref a, rfl, a, _, 0, _, rfl, rfl, hS, atI_nat (j := 0) rfl, rfl, _, rfl, iteN (by decide +kernel) ?_⟩
      refine ⟨.ref a, rfl, a, _, 0, _, rfl, rfl, hS, atI_nat (j := 0) rfl, rfl, _, rfl, iteN (by decide +kernel) ?_⟩
      refine ⟨.ref a, rfl, a, _, 0, _, rfl, rfl, hS, atI_nat (j := 0) rfl, rfl, _, rfl, iteN (by decide +kernel) ?_⟩
      refine ⟨.ref a, rfl, a, _, 0, _, rfl, rfl, hS, atI_nat (j := 0) rfl, rfl, _, rfl, iteN (by decide +kernel) ⟨.ref a, rfl, a, _, 0, _, rfl, rfl, hS, atI_nat (j := 0) rfl, rfl, _, rfl, iteN (by decide +kernel) ⟨.ref a, rfl, a, _, 0, _, rfl, rfl, hS, atI_nat (j := 0) rfl, rfl, _, rfl, iteN (by decide +kernel) ?_⟩⟩⟩
      refine ⟨.ref a, rfl, a, _, 0, _, rfl, rfl, hS, atI_nat (j := 0) rfl, rfl, _, rfl, iteN (by decide +kernel) ?_⟩
      obtain ⟨X0, ax, wx⟩ : ∃ X0, atI (((own.take 3).set (regN r1).toNat (n)).map V.int) (regN r1) = some (.int X0) ∧ Wd X0 := ⟨_, (atI_int2 (cs := (own.take 3).set (regN r1).toNat (n)) (regN_0 hr).1 (by rw [List.length_set, List.length_take]; have := regN_2 hr; omega)).1, Wd.get (Wd.set (Wd.take wo) (wn n rfl rfl)) (regN_0 hr).1 (by rw [List.length_set, List.length_take]; have := regN_2 hr; omega)⟩
      refine fun d hd' => ?_
      have sd : Same G1 (upd G1 d (.dK [])) := Same.new hd'
      refine ⟨.ref q, rfl, _, rfl, q, _, _, _, rfl, rfl, SqL.of (sd _ _ eQ), ax, X0, rfl, wx.log, _, _, rfl, rfl, out_len wx, ?_⟩
      refine ⟨upd_same, [(.inr "store", .str "store"), (.inr "call", .str "call"), (.inr "callby", .str "call"), (.inr "halt", .str "halt"), (.inr "back", .str "back"), (.inr "out", .str (("out " : Str) ++ toString X0))], rfl, (by show 6 ≤ 15; decide), ?_⟩
      have se : Same G1 (upd (upd G1 d (.dK [])) d (.dK (mergeK [] [(.inr "store", .str "store"), (.inr "call", .str "call"), (.inr "callby", .str "call"), (.inr "halt", .str "halt"), (.inr "back", .str "back"), (.inr "out", .str (("out " : Str) ++ toString X0))]))) := Same.put sd hd'
      have ed : (upd (upd G1 d (.dK [])) d (.dK (mergeK [] [(.inr "store", .str "store"), (.inr "call", .str "call"), (.inr "callby", .str "call"), (.inr "halt", .str "halt"), (.inr "back", .str "back"), (.inr "out", .str (("out " : Str) ++ toString X0))]))) d = some (.dK (mergeK [] [(.inr "store", .str "store"), (.inr "call", .str "call"), (.inr "callby", .str "call"), (.inr "halt", .str "halt"), (.inr "back", .str "back"), (.inr "out", .str (("out " : Str) ++ toString X0))])) := upd_same
      generalize upd (upd G1 d (.dK [])) d (.dK (mergeK [] [(.inr "store", .str "store"), (.inr "call", .str "call"), (.inr "callby", .str "call"), (.inr "halt", .str "halt"), (.inr "back", .str "back"), (.inr "out", .str (("out " : Str) ++ toString X0))])) = GD at se ed ⊢
      have sF := sH1.trans se
      refine ⟨_, rfl, _, rfl, .ref d, rfl, d, rfl, .inl ⟨_, .inl ed⟩, .ref a, rfl, a, _, 0, _, rfl, rfl, Same.sqT se hS, atI_nat (j := 0) rfl, _, rfl, _, DGet.k (k := .inr "put") ed, (by show 3 ≤ sizeLine; decide), fun p hp => ?_⟩
      exact k _ p q (sF.trans (Same.new hp)) (sF.free hp) upd_same (se _ _ eQ |> Same.new hp _ _)
    | @name r1 t hr ht =>
      obtain rfl : A0 = regN r1 := by rw [← hA, regL_c hr]; rfl
      obtain ⟨gA, iA⟩ := t3_at l4 (regN_2 hr)
      refine ⟨.ref a, rfl, a, _, 0, _, rfl, rfl, hS, atI_nat (j := 0) rfl, rfl, _, rfl, iteN (by decide +kernel) ?_⟩
      refine ⟨.ref a, rfl, a, _, 0, _, rfl, rfl, hS, atI_nat (j := 0) rfl, rfl, _, rfl, iteY (by decide +kernel) ?_⟩
      refine ⟨.int go, rfl, .ref q, rfl, _, rfl, q, _, _, _, rfl, rfl, eq, iA, ?_⟩
      have eQ : (upd G q (.lst (((own.take 3).map V.int).set (regN r1).toNat (.int (go))))) q = some (.lst (((own.take 3).set (regN r1).toNat (go)).map V.int)) := by rw [upd_same, List.map_set]
      have sH1 : Same H (upd G q (.lst (((own.take 3).map V.int).set (regN r1).toNat (.int (go))))) := Same.put sHG zq
      generalize upd G q (.lst (((own.take 3).map V.int).set (regN r1).toNat (.int (go)))) = G1 at eQ sH1 ⊢
      have hS := Same.sqT sH1 hS00
      refine ⟨.ref a, rfl, a, _, 0, _, rfl, rfl, hS, atI_nat (j := 0) rfl, rfl, _, rfl, iteN (by decide +kernel) ?_⟩
      refine ⟨.ref a, rfl, a, _, 0, _, rfl, rfl, hS, atI_nat (j := 0) rfl, rfl, _, rfl, iteN (by decide +kernel) ?_⟩
      refine ⟨.ref a, rfl, a, _, 0, _, rfl, rfl, hS, atI_nat (j := 0) rfl, rfl, _, rfl, iteN (by decide +kernel) ?_⟩
      refine ⟨.ref a, rfl, a, _, 0, _, rfl, rfl, hS, atI_nat (j := 0) rfl, rfl, _, rfl, iteN (by decide +kernel) ?_⟩
      refine ⟨.ref a, rfl, a, _, 0, _, rfl, rfl, hS, atI_nat (j := 0) rfl, rfl, _, rfl, iteN (by decide +kernel) ⟨.ref a, rfl, a, _, 0, _, rfl, rfl, hS, atI_nat (j := 0) rfl, rfl, _, rfl, iteN (by decide +kernel) ⟨.ref a, rfl, a, _, 0, _, rfl, rfl, hS, atI_nat (j := 0) rfl, rfl, _, rfl, iteN (by decide +kernel) ?_⟩⟩⟩
      refine ⟨.ref a, rfl, a, _, 0, _, rfl, rfl, hS, atI_nat (j := 0) rfl, rfl, _, rfl, iteN (by decide +kernel) ?_⟩
      obtain ⟨X0, ax, wx⟩ : ∃ X0, atI (((own.take 3).set (regN r1).toNat (go)).map V.int) (regN r1) = some (.int X0) ∧ Wd X0 := ⟨_, (atI_int2 (cs := (own.take 3).set (regN r1).toNat (go)) (regN_0 hr).1 (by rw [List.length_set, List.length_take]; have := regN_2 hr; omega)).1, Wd.get (Wd.set (Wd.take wo) wg) (regN_0 hr).1 (by rw [List.length_set, List.length_take]; have := regN_2 hr; omega)⟩
      refine fun d hd' => ?_
      have sd : Same G1 (upd G1 d (.dK [])) := Same.new hd'
      refine ⟨.ref q, rfl, _, rfl, q, _, _, _, rfl, rfl, SqL.of (sd _ _ eQ), ax, X0, rfl, wx.log, _, _, rfl, rfl, out_len wx, ?_⟩
      refine ⟨upd_same, [(.inr "store", .str "store"), (.inr "call", .str "call"), (.inr "callby", .str "call"), (.inr "halt", .str "halt"), (.inr "back", .str "back"), (.inr "out", .str (("out " : Str) ++ toString X0))], rfl, (by show 6 ≤ 15; decide), ?_⟩
      have se : Same G1 (upd (upd G1 d (.dK [])) d (.dK (mergeK [] [(.inr "store", .str "store"), (.inr "call", .str "call"), (.inr "callby", .str "call"), (.inr "halt", .str "halt"), (.inr "back", .str "back"), (.inr "out", .str (("out " : Str) ++ toString X0))]))) := Same.put sd hd'
      have ed : (upd (upd G1 d (.dK [])) d (.dK (mergeK [] [(.inr "store", .str "store"), (.inr "call", .str "call"), (.inr "callby", .str "call"), (.inr "halt", .str "halt"), (.inr "back", .str "back"), (.inr "out", .str (("out " : Str) ++ toString X0))]))) d = some (.dK (mergeK [] [(.inr "store", .str "store"), (.inr "call", .str "call"), (.inr "callby", .str "call"), (.inr "halt", .str "halt"), (.inr "back", .str "back"), (.inr "out", .str (("out " : Str) ++ toString X0))])) := upd_same
      generalize upd (upd G1 d (.dK [])) d (.dK (mergeK [] [(.inr "store", .str "store"), (.inr "call", .str "call"), (.inr "callby", .str "call"), (.inr "halt", .str "halt"), (.inr "back", .str "back"), (.inr "out", .str (("out " : Str) ++ toString X0))])) = GD at se ed ⊢
      have sF := sH1.trans se
      refine ⟨_, rfl, _, rfl, .ref d, rfl, d, rfl, .inl ⟨_, .inl ed⟩, .ref a, rfl, a, _, 0, _, rfl, rfl, Same.sqT se hS, atI_nat (j := 0) rfl, _, rfl, _, DGet.k (k := .inr "name") ed, (by show 3 ≤ sizeLine; decide), fun p hp => ?_⟩
      exact k _ p q (sF.trans (Same.new hp)) (sF.free hp) upd_same (se _ _ eQ |> Same.new hp _ _)
    | @take r1 r2 hr hs =>
      obtain rfl : A0 = regN r1 := by rw [← hA, regL_c hr]; rfl
      obtain ⟨gA, iA⟩ := t3_at l4 (regN_2 hr)
      obtain rfl : B0 = regN r2 := by rw [← hB, regL_c hr, regL_c hs]; rfl
      obtain ⟨gB, iB⟩ := t3_at l4 (regN_2 hs)
      refine ⟨.ref a, rfl, a, _, 0, _, rfl, rfl, hS, atI_nat (j := 0) rfl, rfl, _, rfl, iteN (by decide +kernel) ?_⟩
      refine ⟨.ref a, rfl, a, _, 0, _, rfl, rfl, hS, atI_nat (j := 0) rfl, rfl, _, rfl, iteN (by decide +kernel) ?_⟩
      refine ⟨.ref a, rfl, a, _, 0, _, rfl, rfl, hS, atI_nat (j := 0) rfl, rfl, _, rfl, iteN (by decide +kernel) ?_⟩
      refine ⟨.ref a, rfl, a, _, 0, _, rfl, rfl, hS, atI_nat (j := 0) rfl, rfl, _, rfl, iteY (by decide +kernel) ?_⟩
      refine ⟨.ref q, rfl, _, rfl, q, _, _, _, rfl, rfl, SqL.of eq, gA, .ref q, rfl, _, rfl, q, _, _, _, rfl, rfl, SqL.of eq, gB, _, _, rfl, rfl, _, _, rfl, rfl, .inl ⟨_, rfl, _, _, rfl, rfl, (by show (0 : Int) < 65536; decide), .ref q, rfl, _, rfl, q, _, _, _, rfl, rfl, eq, iA, ?_⟩⟩
      have eQ : (upd G q (.lst (((own.take 3).map V.int).set (regN r1).toNat (.int ((gI own (regN r1) - gI own (regN r2) + 65536) % 65536))))) q = some (.lst (((own.take 3).set (regN r1).toNat ((gI own (regN r1) - gI own (regN r2) + 65536) % 65536)).map V.int)) := by rw [upd_same, List.map_set]
      have sH1 : Same H (upd G q (.lst (((own.take 3).map V.int).set (regN r1).toNat (.int ((gI own (regN r1) - gI own (regN r2) + 65536) % 65536))))) := Same.put sHG zq
      generalize upd G q (.lst (((own.take 3).map V.int).set (regN r1).toNat (.int ((gI own (regN r1) - gI own (regN r2) + 65536) % 65536)))) = G1 at eQ sH1 ⊢
      have hS := Same.sqT sH1 hS00
      refine ⟨.ref a, rfl, a, _, 0, _, rfl, rfl, hS, atI_nat (j := 0) rfl, rfl, _, rfl, iteN (by decide +kernel) ?_⟩
      refine ⟨.ref a, rfl, a, _, 0, _, rfl, rfl, hS, atI_nat (j := 0) rfl, rfl, _, rfl, iteN (by decide +kernel) ?_⟩
      refine ⟨.ref a, rfl, a, _, 0, _, rfl, rfl, hS, atI_nat (j := 0) rfl, rfl, _, rfl, iteN (by decide +kernel) ⟨.ref a, rfl, a, _, 0, _, rfl, rfl, hS, atI_nat (j := 0) rfl, rfl, _, rfl, iteN (by decide +kernel) ⟨.ref a, rfl, a, _, 0, _, rfl, rfl, hS, atI_nat (j := 0) rfl, rfl, _, rfl, iteN (by decide +kernel) ?_⟩⟩⟩
      refine ⟨.ref a, rfl, a, _, 0, _, rfl, rfl, hS, atI_nat (j := 0) rfl, rfl, _, rfl, iteN (by decide +kernel) ?_⟩
      obtain ⟨X0, ax, wx⟩ : ∃ X0, atI (((own.take 3).set (regN r1).toNat ((gI own (regN r1) - gI own (regN r2) + 65536) % 65536)).map V.int) (regN r1) = some (.int X0) ∧ Wd X0 := ⟨_, (atI_int2 (cs := (own.take 3).set (regN r1).toNat ((gI own (regN r1) - gI own (regN r2) + 65536) % 65536)) (regN_0 hr).1 (by rw [List.length_set, List.length_take]; have := regN_2 hr; omega)).1, Wd.get (Wd.set (Wd.take wo) (Wd.mod _)) (regN_0 hr).1 (by rw [List.length_set, List.length_take]; have := regN_2 hr; omega)⟩
      refine fun d hd' => ?_
      have sd : Same G1 (upd G1 d (.dK [])) := Same.new hd'
      refine ⟨.ref q, rfl, _, rfl, q, _, _, _, rfl, rfl, SqL.of (sd _ _ eQ), ax, X0, rfl, wx.log, _, _, rfl, rfl, out_len wx, ?_⟩
      refine ⟨upd_same, [(.inr "store", .str "store"), (.inr "call", .str "call"), (.inr "callby", .str "call"), (.inr "halt", .str "halt"), (.inr "back", .str "back"), (.inr "out", .str (("out " : Str) ++ toString X0))], rfl, (by show 6 ≤ 15; decide), ?_⟩
      have se : Same G1 (upd (upd G1 d (.dK [])) d (.dK (mergeK [] [(.inr "store", .str "store"), (.inr "call", .str "call"), (.inr "callby", .str "call"), (.inr "halt", .str "halt"), (.inr "back", .str "back"), (.inr "out", .str (("out " : Str) ++ toString X0))]))) := Same.put sd hd'
      have ed : (upd (upd G1 d (.dK [])) d (.dK (mergeK [] [(.inr "store", .str "store"), (.inr "call", .str "call"), (.inr "callby", .str "call"), (.inr "halt", .str "halt"), (.inr "back", .str "back"), (.inr "out", .str (("out " : Str) ++ toString X0))]))) d = some (.dK (mergeK [] [(.inr "store", .str "store"), (.inr "call", .str "call"), (.inr "callby", .str "call"), (.inr "halt", .str "halt"), (.inr "back", .str "back"), (.inr "out", .str (("out " : Str) ++ toString X0))])) := upd_same
      generalize upd (upd G1 d (.dK [])) d (.dK (mergeK [] [(.inr "store", .str "store"), (.inr "call", .str "call"), (.inr "callby", .str "call"), (.inr "halt", .str "halt"), (.inr "back", .str "back"), (.inr "out", .str (("out " : Str) ++ toString X0))])) = GD at se ed ⊢
      have sF := sH1.trans se
      refine ⟨_, rfl, _, rfl, .ref d, rfl, d, rfl, .inl ⟨_, .inl ed⟩, .ref a, rfl, a, _, 0, _, rfl, rfl, Same.sqT se hS, atI_nat (j := 0) rfl, _, rfl, _, DGet.k (k := .inr "take") ed, (by show 3 ≤ sizeLine; decide), fun p hp => ?_⟩
      exact k _ p q (sF.trans (Same.new hp)) (sF.free hp) upd_same (se _ _ eQ |> Same.new hp _ _)
    | @load r1 r2 d hr hs =>
      obtain rfl : A0 = regN r1 := by rw [← hA, regL_c hr]; rfl
      obtain ⟨gA, iA⟩ := t3_at l4 (regN_2 hr)
      obtain rfl : B0 = regN r2 := by rw [← hB, regL_c hr, regL_c hs]; rfl
      obtain ⟨gB, iB⟩ := t3_at l4 (regN_2 hs)
      refine ⟨.ref a, rfl, a, _, 0, _, rfl, rfl, hS, atI_nat (j := 0) rfl, rfl, _, rfl, iteN (by decide +kernel) ?_⟩
      refine ⟨.ref a, rfl, a, _, 0, _, rfl, rfl, hS, atI_nat (j := 0) rfl, rfl, _, rfl, iteN (by decide +kernel) ?_⟩
      refine ⟨.ref a, rfl, a, _, 0, _, rfl, rfl, hS, atI_nat (j := 0) rfl, rfl, _, rfl, iteN (by decide +kernel) ?_⟩
      refine ⟨.ref a, rfl, a, _, 0, _, rfl, rfl, hS, atI_nat (j := 0) rfl, rfl, _, rfl, iteN (by decide +kernel) ?_⟩
      refine ⟨.ref a, rfl, a, _, 0, _, rfl, rfl, hS, atI_nat (j := 0) rfl, rfl, _, rfl, iteY (by decide +kernel) ?_⟩
      refine ⟨.ref h, rfl, h, _, 1, _, rfl, rfl, eh, atI_nat (j := 1) rfl, .ref q, rfl, _, rfl, q, _, _, _, rfl, rfl, eq, iA, ?_⟩
      have eQ : (upd G q (.lst (((own.take 3).map V.int).set (regN r1).toNat (.int (hd.2))))) q = some (.lst (((own.take 3).set (regN r1).toNat (hd.2)).map V.int)) := by rw [upd_same, List.map_set]
      have sH1 : Same H (upd G q (.lst (((own.take 3).map V.int).set (regN r1).toNat (.int (hd.2))))) := Same.put sHG zq
      generalize upd G q (.lst (((own.take 3).map V.int).set (regN r1).toNat (.int (hd.2)))) = G1 at eQ sH1 ⊢
      have hS := Same.sqT sH1 hS00
      refine ⟨.ref a, rfl, a, _, 0, _, rfl, rfl, hS, atI_nat (j := 0) rfl, rfl, _, rfl, iteN (by decide +kernel) ?_⟩
      refine ⟨.ref a, rfl, a, _, 0, _, rfl, rfl, hS, atI_nat (j := 0) rfl, rfl, _, rfl, iteN (by decide +kernel) ⟨.ref a, rfl, a, _, 0, _, rfl, rfl, hS, atI_nat (j := 0) rfl, rfl, _, rfl, iteN (by decide +kernel) ⟨.ref a, rfl, a, _, 0, _, rfl, rfl, hS, atI_nat (j := 0) rfl, rfl, _, rfl, iteN (by decide +kernel) ?_⟩⟩⟩
      refine ⟨.ref a, rfl, a, _, 0, _, rfl, rfl, hS, atI_nat (j := 0) rfl, rfl, _, rfl, iteN (by decide +kernel) ?_⟩
      obtain ⟨X0, ax, wx⟩ : ∃ X0, atI (((own.take 3).set (regN r1).toNat (hd.2)).map V.int) (regN r1) = some (.int X0) ∧ Wd X0 := ⟨_, (atI_int2 (cs := (own.take 3).set (regN r1).toNat (hd.2)) (regN_0 hr).1 (by rw [List.length_set, List.length_take]; have := regN_2 hr; omega)).1, Wd.get (Wd.set (Wd.take wo) wh) (regN_0 hr).1 (by rw [List.length_set, List.length_take]; have := regN_2 hr; omega)⟩
      refine fun d hd' => ?_
      have sd : Same G1 (upd G1 d (.dK [])) := Same.new hd'
      refine ⟨.ref q, rfl, _, rfl, q, _, _, _, rfl, rfl, SqL.of (sd _ _ eQ), ax, X0, rfl, wx.log, _, _, rfl, rfl, out_len wx, ?_⟩
      refine ⟨upd_same, [(.inr "store", .str "store"), (.inr "call", .str "call"), (.inr "callby", .str "call"), (.inr "halt", .str "halt"), (.inr "back", .str "back"), (.inr "out", .str (("out " : Str) ++ toString X0))], rfl, (by show 6 ≤ 15; decide), ?_⟩
      have se : Same G1 (upd (upd G1 d (.dK [])) d (.dK (mergeK [] [(.inr "store", .str "store"), (.inr "call", .str "call"), (.inr "callby", .str "call"), (.inr "halt", .str "halt"), (.inr "back", .str "back"), (.inr "out", .str (("out " : Str) ++ toString X0))]))) := Same.put sd hd'
      have ed : (upd (upd G1 d (.dK [])) d (.dK (mergeK [] [(.inr "store", .str "store"), (.inr "call", .str "call"), (.inr "callby", .str "call"), (.inr "halt", .str "halt"), (.inr "back", .str "back"), (.inr "out", .str (("out " : Str) ++ toString X0))]))) d = some (.dK (mergeK [] [(.inr "store", .str "store"), (.inr "call", .str "call"), (.inr "callby", .str "call"), (.inr "halt", .str "halt"), (.inr "back", .str "back"), (.inr "out", .str (("out " : Str) ++ toString X0))])) := upd_same
      generalize upd (upd G1 d (.dK [])) d (.dK (mergeK [] [(.inr "store", .str "store"), (.inr "call", .str "call"), (.inr "callby", .str "call"), (.inr "halt", .str "halt"), (.inr "back", .str "back"), (.inr "out", .str (("out " : Str) ++ toString X0))])) = GD at se ed ⊢
      have sF := sH1.trans se
      refine ⟨_, rfl, _, rfl, .ref d, rfl, d, rfl, .inl ⟨_, .inl ed⟩, .ref a, rfl, a, _, 0, _, rfl, rfl, Same.sqT se hS, atI_nat (j := 0) rfl, _, rfl, _, DGet.k (k := .inr "load") ed, (by show 3 ≤ sizeLine; decide), fun p hp => ?_⟩
      exact k _ p q (sF.trans (Same.new hp)) (sF.free hp) upd_same (se _ _ eQ |> Same.new hp _ _)
    | @store r1 r2 d hr hs =>
      obtain rfl : A0 = regN r1 := by rw [← hA, regL_c hr]; rfl
      obtain ⟨gA, iA⟩ := t3_at l4 (regN_2 hr)
      obtain rfl : B0 = regN r2 := by rw [← hB, regL_c hr, regL_c hs]; rfl
      obtain ⟨gB, iB⟩ := t3_at l4 (regN_2 hs)
      refine ⟨.ref a, rfl, a, _, 0, _, rfl, rfl, hS, atI_nat (j := 0) rfl, rfl, _, rfl, iteN (by decide +kernel) ?_⟩
      refine ⟨.ref a, rfl, a, _, 0, _, rfl, rfl, hS, atI_nat (j := 0) rfl, rfl, _, rfl, iteN (by decide +kernel) ?_⟩
      refine ⟨.ref a, rfl, a, _, 0, _, rfl, rfl, hS, atI_nat (j := 0) rfl, rfl, _, rfl, iteN (by decide +kernel) ?_⟩
      refine ⟨.ref a, rfl, a, _, 0, _, rfl, rfl, hS, atI_nat (j := 0) rfl, rfl, _, rfl, iteN (by decide +kernel) ?_⟩
      refine ⟨.ref a, rfl, a, _, 0, _, rfl, rfl, hS, atI_nat (j := 0) rfl, rfl, _, rfl, iteN (by decide +kernel) ?_⟩
      refine ⟨.ref a, rfl, a, _, 0, _, rfl, rfl, hS, atI_nat (j := 0) rfl, rfl, _, rfl, iteY (by decide +kernel) ?_⟩
      refine ⟨_, rfl, .ref q, rfl, _, rfl, q, _, _, _, rfl, rfl, SqL.of eq, gB, .ref a, rfl, a, _, 3, _, rfl, rfl, hS, atI_nat (j := 3) rfl, _, _, rfl, rfl, .inl ⟨_, rfl, _, _, rfl, rfl, (by show (0 : Int) < 65536; decide), .ref q, rfl, _, rfl, q, _, _, _, rfl, rfl, SqL.of eq, gA, (by show 2 ≤ sizeLine; decide), fun t ht => ?_⟩⟩
      have st1 : Same G (upd G t (.tup [.int ((gI own (regN r2) + d) % 65536), .int (gI own (regN r1))])) := Same.new ht
      have et : (upd G t (.tup [.int ((gI own (regN r2) + d) % 65536), .int (gI own (regN r1))])) t = some (.tup [.int ((gI own (regN r2) + d) % 65536), .int (gI own (regN r1))]) := upd_same
      generalize upd G t (.tup [.int ((gI own (regN r2) + d) % 65536), .int (gI own (regN r1))]) = Ga at st1 et ⊢
      refine ⟨(by show 1 ≤ sizeLine; decide), fun m hm => ?_⟩
      have st2 : Same Ga (upd Ga m (.lst [V.ref t])) := Same.new hm
      have em : (upd Ga m (.lst [V.ref t])) m = some (.lst [V.ref t]) := upd_same
      generalize upd Ga m (.lst [V.ref t]) = Gb at st2 em ⊢
      refine ⟨q, m, _, _, rfl, rfl, st2 _ _ (st1 _ _ eq), em, Nat.le_trans (show _ ≤ 4 by rw [List.length_map, List.length_take, List.length_singleton]; omega) (by decide), fun q1 hq1 => ?_⟩
      have st3 : Same Gb (upd Gb q1 (.lst ((own.take 3).map V.int ++ [V.ref t]))) := Same.new hq1
      have eQ : (upd Gb q1 (.lst ((own.take 3).map V.int ++ [V.ref t]))) q1 = some (.lst ((own.take 3).map V.int ++ [V.ref t])) := upd_same
      generalize upd Gb q1 (.lst ((own.take 3).map V.int ++ [V.ref t])) = G1 at st3 eQ ⊢
      have sG1 := (st1.trans st2).trans st3
      have et1 := st3 _ _ (st2 _ _ et)
      have sH1 : Same H G1 := sHG.trans sG1
      replace hS := Same.sqT sG1 hS
      refine ⟨.ref a, rfl, a, _, 0, _, rfl, rfl, hS, atI_nat (j := 0) rfl, rfl, _, rfl, iteN (by decide +kernel) ⟨.ref a, rfl, a, _, 0, _, rfl, rfl, hS, atI_nat (j := 0) rfl, rfl, _, rfl, iteN (by decide +kernel) ⟨.ref a, rfl, a, _, 0, _, rfl, rfl, hS, atI_nat (j := 0) rfl, rfl, _, rfl, iteN (by decide +kernel) ?_⟩⟩⟩
      refine ⟨.ref a, rfl, a, _, 0, _, rfl, rfl, hS, atI_nat (j := 0) rfl, rfl, _, rfl, iteN (by decide +kernel) ?_⟩
      obtain ⟨X0, ax, wx⟩ : ∃ X0, atI ((own.take 3).map V.int ++ [V.ref t]) (regN r1) = some (.int X0) ∧ Wd X0 := ⟨_, atI_app gA (regN_0 hr).1, Wd.get wo (regN_0 hr).1 (by have := regN_2 hr; omega)⟩
      refine fun d hd' => ?_
      have sd : Same G1 (upd G1 d (.dK [])) := Same.new hd'
      refine ⟨.ref q1, rfl, _, rfl, q1, _, _, _, rfl, rfl, SqL.of (sd _ _ eQ), ax, X0, rfl, wx.log, _, _, rfl, rfl, out_len wx, ?_⟩
      refine ⟨upd_same, [(.inr "store", .str "store"), (.inr "call", .str "call"), (.inr "callby", .str "call"), (.inr "halt", .str "halt"), (.inr "back", .str "back"), (.inr "out", .str (("out " : Str) ++ toString X0))], rfl, (by show 6 ≤ 15; decide), ?_⟩
      have se : Same G1 (upd (upd G1 d (.dK [])) d (.dK (mergeK [] [(.inr "store", .str "store"), (.inr "call", .str "call"), (.inr "callby", .str "call"), (.inr "halt", .str "halt"), (.inr "back", .str "back"), (.inr "out", .str (("out " : Str) ++ toString X0))]))) := Same.put sd hd'
      have ed : (upd (upd G1 d (.dK [])) d (.dK (mergeK [] [(.inr "store", .str "store"), (.inr "call", .str "call"), (.inr "callby", .str "call"), (.inr "halt", .str "halt"), (.inr "back", .str "back"), (.inr "out", .str (("out " : Str) ++ toString X0))]))) d = some (.dK (mergeK [] [(.inr "store", .str "store"), (.inr "call", .str "call"), (.inr "callby", .str "call"), (.inr "halt", .str "halt"), (.inr "back", .str "back"), (.inr "out", .str (("out " : Str) ++ toString X0))])) := upd_same
      generalize upd (upd G1 d (.dK [])) d (.dK (mergeK [] [(.inr "store", .str "store"), (.inr "call", .str "call"), (.inr "callby", .str "call"), (.inr "halt", .str "halt"), (.inr "back", .str "back"), (.inr "out", .str (("out " : Str) ++ toString X0))])) = GD at se ed ⊢
      have sF := sH1.trans se
      refine ⟨_, rfl, _, rfl, .ref d, rfl, d, rfl, .inl ⟨_, .inl ed⟩, .ref a, rfl, a, _, 0, _, rfl, rfl, Same.sqT se hS, atI_nat (j := 0) rfl, _, rfl, _, DGet.k (k := .inr "store") ed, (by show 3 ≤ sizeLine; decide), fun p hp => ?_⟩
      exact k _ p q1 (sF.trans (Same.new hp)) (sF.free hp) upd_same (⟨t, (Same.new hp) _ _ (se _ _ eQ), (Same.new hp) _ _ (se _ _ et1)⟩)
    | @out r1 hr =>
      obtain rfl : A0 = regN r1 := by rw [← hA, regL_c hr]; rfl
      obtain ⟨gA, iA⟩ := t3_at l4 (regN_2 hr)
      refine ⟨.ref a, rfl, a, _, 0, _, rfl, rfl, hS, atI_nat (j := 0) rfl, rfl, _, rfl, iteN (by decide +kernel) ?_⟩
      refine ⟨.ref a, rfl, a, _, 0, _, rfl, rfl, hS, atI_nat (j := 0) rfl, rfl, _, rfl, iteN (by decide +kernel) ?_⟩
      refine ⟨.ref a, rfl, a, _, 0, _, rfl, rfl, hS, atI_nat (j := 0) rfl, rfl, _, rfl, iteN (by decide +kernel) ?_⟩
      refine ⟨.ref a, rfl, a, _, 0, _, rfl, rfl, hS, atI_nat (j := 0) rfl, rfl, _, rfl, iteN (by decide +kernel) ?_⟩
      refine ⟨.ref a, rfl, a, _, 0, _, rfl, rfl, hS, atI_nat (j := 0) rfl, rfl, _, rfl, iteN (by decide +kernel) ?_⟩
      refine ⟨.ref a, rfl, a, _, 0, _, rfl, rfl, hS, atI_nat (j := 0) rfl, rfl, _, rfl, iteN (by decide +kernel) ?_⟩
      refine ⟨.ref a, rfl, a, _, 0, _, rfl, rfl, hS, atI_nat (j := 0) rfl, rfl, _, rfl, iteN (by decide +kernel) ⟨.ref a, rfl, a, _, 0, _, rfl, rfl, hS, atI_nat (j := 0) rfl, rfl, _, rfl, iteN (by decide +kernel) ⟨.ref a, rfl, a, _, 0, _, rfl, rfl, hS, atI_nat (j := 0) rfl, rfl, _, rfl, iteN (by decide +kernel) ?_⟩⟩⟩
      refine ⟨.ref a, rfl, a, _, 0, _, rfl, rfl, hS, atI_nat (j := 0) rfl, rfl, _, rfl, iteN (by decide +kernel) ?_⟩
      have eQ := eq
      have sH1 := sHG
      obtain ⟨G1, hG1⟩ : ∃ G1, G1 = G := ⟨_, rfl⟩
      rw [← hG1] at eQ sH1 hS ⊢
      have ax := gA
      have wx : Wd (gI own (regN r1)) := Wd.get wo (regN_0 hr).1 (by have := regN_2 hr; omega)
      refine fun d hd' => ?_
      have sd : Same G1 (upd G1 d (.dK [])) := Same.new hd'
      refine ⟨.ref q, rfl, _, rfl, q, _, _, _, rfl, rfl, SqL.of (sd _ _ eQ), ax, (gI own (regN r1)), rfl, wx.log, _, _, rfl, rfl, out_len wx, ?_⟩
      refine ⟨upd_same, [(.inr "store", .str "store"), (.inr "call", .str "call"), (.inr "callby", .str "call"), (.inr "halt", .str "halt"), (.inr "back", .str "back"), (.inr "out", .str (("out " : Str) ++ toString (gI own (regN r1))))], rfl, (by show 6 ≤ 15; decide), ?_⟩
      have se : Same G1 (upd (upd G1 d (.dK [])) d (.dK (mergeK [] [(.inr "store", .str "store"), (.inr "call", .str "call"), (.inr "callby", .str "call"), (.inr "halt", .str "halt"), (.inr "back", .str "back"), (.inr "out", .str (("out " : Str) ++ toString (gI own (regN r1))))]))) := Same.put sd hd'
      have ed : (upd (upd G1 d (.dK [])) d (.dK (mergeK [] [(.inr "store", .str "store"), (.inr "call", .str "call"), (.inr "callby", .str "call"), (.inr "halt", .str "halt"), (.inr "back", .str "back"), (.inr "out", .str (("out " : Str) ++ toString (gI own (regN r1))))]))) d = some (.dK (mergeK [] [(.inr "store", .str "store"), (.inr "call", .str "call"), (.inr "callby", .str "call"), (.inr "halt", .str "halt"), (.inr "back", .str "back"), (.inr "out", .str (("out " : Str) ++ toString (gI own (regN r1))))])) := upd_same
      generalize upd (upd G1 d (.dK [])) d (.dK (mergeK [] [(.inr "store", .str "store"), (.inr "call", .str "call"), (.inr "callby", .str "call"), (.inr "halt", .str "halt"), (.inr "back", .str "back"), (.inr "out", .str (("out " : Str) ++ toString (gI own (regN r1))))])) = GD at se ed ⊢
      have sF := sH1.trans se
      refine ⟨_, rfl, _, rfl, .ref d, rfl, d, rfl, .inl ⟨_, .inl ed⟩, .ref a, rfl, a, _, 0, _, rfl, rfl, Same.sqT se hS, atI_nat (j := 0) rfl, _, rfl, _, DGet.k (k := .inr "out") ed, (by show 3 ≤ sizeLine; decide), fun p hp => ?_⟩
      exact k _ p q (sF.trans (Same.new hp)) (sF.free hp) upd_same (se _ _ eQ |> Same.new hp _ _)
    | back =>
      obtain rfl : A0 = 0 := by rw [← hA]; rw [regL_0]; rfl
      obtain ⟨gA, iA⟩ := t3_at l4 (i := 0) (by decide)
      refine ⟨.ref a, rfl, a, _, 0, _, rfl, rfl, hS, atI_nat (j := 0) rfl, rfl, _, rfl, iteN (by decide +kernel) ?_⟩
      refine ⟨.ref a, rfl, a, _, 0, _, rfl, rfl, hS, atI_nat (j := 0) rfl, rfl, _, rfl, iteN (by decide +kernel) ?_⟩
      refine ⟨.ref a, rfl, a, _, 0, _, rfl, rfl, hS, atI_nat (j := 0) rfl, rfl, _, rfl, iteN (by decide +kernel) ?_⟩
      refine ⟨.ref a, rfl, a, _, 0, _, rfl, rfl, hS, atI_nat (j := 0) rfl, rfl, _, rfl, iteN (by decide +kernel) ?_⟩
      refine ⟨.ref a, rfl, a, _, 0, _, rfl, rfl, hS, atI_nat (j := 0) rfl, rfl, _, rfl, iteN (by decide +kernel) ?_⟩
      refine ⟨.ref a, rfl, a, _, 0, _, rfl, rfl, hS, atI_nat (j := 0) rfl, rfl, _, rfl, iteN (by decide +kernel) ?_⟩
      refine ⟨.ref a, rfl, a, _, 0, _, rfl, rfl, hS, atI_nat (j := 0) rfl, rfl, _, rfl, iteN (by decide +kernel) ⟨.ref a, rfl, a, _, 0, _, rfl, rfl, hS, atI_nat (j := 0) rfl, rfl, _, rfl, iteN (by decide +kernel) ⟨.ref a, rfl, a, _, 0, _, rfl, rfl, hS, atI_nat (j := 0) rfl, rfl, _, rfl, iteN (by decide +kernel) ?_⟩⟩⟩
      refine ⟨.ref a, rfl, a, _, 0, _, rfl, rfl, hS, atI_nat (j := 0) rfl, rfl, _, rfl, iteN (by decide +kernel) ?_⟩
      have eQ := eq
      have sH1 := sHG
      obtain ⟨G1, hG1⟩ : ∃ G1, G1 = G := ⟨_, rfl⟩
      rw [← hG1] at eQ sH1 hS ⊢
      have ax := gA
      have wx : Wd (gI own 0) := Wd.get wo (by decide) (by omega)
      refine fun d hd' => ?_
      have sd : Same G1 (upd G1 d (.dK [])) := Same.new hd'
      refine ⟨.ref q, rfl, _, rfl, q, _, _, _, rfl, rfl, SqL.of (sd _ _ eQ), ax, (gI own 0), rfl, wx.log, _, _, rfl, rfl, out_len wx, ?_⟩
      refine ⟨upd_same, [(.inr "store", .str "store"), (.inr "call", .str "call"), (.inr "callby", .str "call"), (.inr "halt", .str "halt"), (.inr "back", .str "back"), (.inr "out", .str (("out " : Str) ++ toString (gI own 0)))], rfl, (by show 6 ≤ 15; decide), ?_⟩
      have se : Same G1 (upd (upd G1 d (.dK [])) d (.dK (mergeK [] [(.inr "store", .str "store"), (.inr "call", .str "call"), (.inr "callby", .str "call"), (.inr "halt", .str "halt"), (.inr "back", .str "back"), (.inr "out", .str (("out " : Str) ++ toString (gI own 0)))]))) := Same.put sd hd'
      have ed : (upd (upd G1 d (.dK [])) d (.dK (mergeK [] [(.inr "store", .str "store"), (.inr "call", .str "call"), (.inr "callby", .str "call"), (.inr "halt", .str "halt"), (.inr "back", .str "back"), (.inr "out", .str (("out " : Str) ++ toString (gI own 0)))]))) d = some (.dK (mergeK [] [(.inr "store", .str "store"), (.inr "call", .str "call"), (.inr "callby", .str "call"), (.inr "halt", .str "halt"), (.inr "back", .str "back"), (.inr "out", .str (("out " : Str) ++ toString (gI own 0)))])) := upd_same
      generalize upd (upd G1 d (.dK [])) d (.dK (mergeK [] [(.inr "store", .str "store"), (.inr "call", .str "call"), (.inr "callby", .str "call"), (.inr "halt", .str "halt"), (.inr "back", .str "back"), (.inr "out", .str (("out " : Str) ++ toString (gI own 0)))])) = GD at se ed ⊢
      have sF := sH1.trans se
      refine ⟨_, rfl, _, rfl, .ref d, rfl, d, rfl, .inl ⟨_, .inl ed⟩, .ref a, rfl, a, _, 0, _, rfl, rfl, Same.sqT se hS, atI_nat (j := 0) rfl, _, rfl, _, DGet.k (k := .inr "back") ed, (by show 3 ≤ sizeLine; decide), fun p hp => ?_⟩
      exact k _ p q (sF.trans (Same.new hp)) (sF.free hp) upd_same (se _ _ eQ |> Same.new hp _ _)
    | halt =>
      obtain rfl : A0 = 0 := by rw [← hA]; rw [regL_0]; rfl
      obtain ⟨gA, iA⟩ := t3_at l4 (i := 0) (by decide)
      refine ⟨.ref a, rfl, a, _, 0, _, rfl, rfl, hS, atI_nat (j := 0) rfl, rfl, _, rfl, iteN (by decide +kernel) ?_⟩
      refine ⟨.ref a, rfl, a, _, 0, _, rfl, rfl, hS, atI_nat (j := 0) rfl, rfl, _, rfl, iteN (by decide +kernel) ?_⟩
      refine ⟨.ref a, rfl, a, _, 0, _, rfl, rfl, hS, atI_nat (j := 0) rfl, rfl, _, rfl, iteN (by decide +kernel) ?_⟩
      refine ⟨.ref a, rfl, a, _, 0, _, rfl, rfl, hS, atI_nat (j := 0) rfl, rfl, _, rfl, iteN (by decide +kernel) ?_⟩
      refine ⟨.ref a, rfl, a, _, 0, _, rfl, rfl, hS, atI_nat (j := 0) rfl, rfl, _, rfl, iteN (by decide +kernel) ?_⟩
      refine ⟨.ref a, rfl, a, _, 0, _, rfl, rfl, hS, atI_nat (j := 0) rfl, rfl, _, rfl, iteN (by decide +kernel) ?_⟩
      refine ⟨.ref a, rfl, a, _, 0, _, rfl, rfl, hS, atI_nat (j := 0) rfl, rfl, _, rfl, iteN (by decide +kernel) ⟨.ref a, rfl, a, _, 0, _, rfl, rfl, hS, atI_nat (j := 0) rfl, rfl, _, rfl, iteN (by decide +kernel) ⟨.ref a, rfl, a, _, 0, _, rfl, rfl, hS, atI_nat (j := 0) rfl, rfl, _, rfl, iteN (by decide +kernel) ?_⟩⟩⟩
      refine ⟨.ref a, rfl, a, _, 0, _, rfl, rfl, hS, atI_nat (j := 0) rfl, rfl, _, rfl, iteN (by decide +kernel) ?_⟩
      have eQ := eq
      have sH1 := sHG
      obtain ⟨G1, hG1⟩ : ∃ G1, G1 = G := ⟨_, rfl⟩
      rw [← hG1] at eQ sH1 hS ⊢
      have ax := gA
      have wx : Wd (gI own 0) := Wd.get wo (by decide) (by omega)
      refine fun d hd' => ?_
      have sd : Same G1 (upd G1 d (.dK [])) := Same.new hd'
      refine ⟨.ref q, rfl, _, rfl, q, _, _, _, rfl, rfl, SqL.of (sd _ _ eQ), ax, (gI own 0), rfl, wx.log, _, _, rfl, rfl, out_len wx, ?_⟩
      refine ⟨upd_same, [(.inr "store", .str "store"), (.inr "call", .str "call"), (.inr "callby", .str "call"), (.inr "halt", .str "halt"), (.inr "back", .str "back"), (.inr "out", .str (("out " : Str) ++ toString (gI own 0)))], rfl, (by show 6 ≤ 15; decide), ?_⟩
      have se : Same G1 (upd (upd G1 d (.dK [])) d (.dK (mergeK [] [(.inr "store", .str "store"), (.inr "call", .str "call"), (.inr "callby", .str "call"), (.inr "halt", .str "halt"), (.inr "back", .str "back"), (.inr "out", .str (("out " : Str) ++ toString (gI own 0)))]))) := Same.put sd hd'
      have ed : (upd (upd G1 d (.dK [])) d (.dK (mergeK [] [(.inr "store", .str "store"), (.inr "call", .str "call"), (.inr "callby", .str "call"), (.inr "halt", .str "halt"), (.inr "back", .str "back"), (.inr "out", .str (("out " : Str) ++ toString (gI own 0)))]))) d = some (.dK (mergeK [] [(.inr "store", .str "store"), (.inr "call", .str "call"), (.inr "callby", .str "call"), (.inr "halt", .str "halt"), (.inr "back", .str "back"), (.inr "out", .str (("out " : Str) ++ toString (gI own 0)))])) := upd_same
      generalize upd (upd G1 d (.dK [])) d (.dK (mergeK [] [(.inr "store", .str "store"), (.inr "call", .str "call"), (.inr "callby", .str "call"), (.inr "halt", .str "halt"), (.inr "back", .str "back"), (.inr "out", .str (("out " : Str) ++ toString (gI own 0)))])) = GD at se ed ⊢
      have sF := sH1.trans se
      refine ⟨_, rfl, _, rfl, .ref d, rfl, d, rfl, .inl ⟨_, .inl ed⟩, .ref a, rfl, a, _, 0, _, rfl, rfl, Same.sqT se hS, atI_nat (j := 0) rfl, _, rfl, _, DGet.k (k := .inr "halt") ed, (by show 3 ≤ sizeLine; decide), fun p hp => ?_⟩
      exact k _ p q (sF.trans (Same.new hp)) (sF.free hp) upd_same (se _ _ eQ |> Same.new hp _ _)
    | @jump t ht =>
      obtain rfl : A0 = 0 := by rw [← hA]; rw [regL_n (hz _ ht)]; rfl
      obtain ⟨gA, iA⟩ := t3_at l4 (i := 0) (by decide)
      refine ⟨.ref a, rfl, a, _, 0, _, rfl, rfl, hS, atI_nat (j := 0) rfl, rfl, _, rfl, iteN (by decide +kernel) ?_⟩
      refine ⟨.ref a, rfl, a, _, 0, _, rfl, rfl, hS, atI_nat (j := 0) rfl, rfl, _, rfl, iteN (by decide +kernel) ?_⟩
      refine ⟨.ref a, rfl, a, _, 0, _, rfl, rfl, hS, atI_nat (j := 0) rfl, rfl, _, rfl, iteN (by decide +kernel) ?_⟩
      refine ⟨.ref a, rfl, a, _, 0, _, rfl, rfl, hS, atI_nat (j := 0) rfl, rfl, _, rfl, iteN (by decide +kernel) ?_⟩
      refine ⟨.ref a, rfl, a, _, 0, _, rfl, rfl, hS, atI_nat (j := 0) rfl, rfl, _, rfl, iteN (by decide +kernel) ?_⟩
      refine ⟨.ref a, rfl, a, _, 0, _, rfl, rfl, hS, atI_nat (j := 0) rfl, rfl, _, rfl, iteN (by decide +kernel) ?_⟩
      refine ⟨.ref a, rfl, a, _, 0, _, rfl, rfl, hS, atI_nat (j := 0) rfl, rfl, _, rfl, iteY (by decide +kernel) (iteT ⟨_, rfl, ?_⟩)⟩
      refine ⟨.ref a, rfl, a, _, 0, _, rfl, rfl, hS, atI_nat (j := 0) rfl, rfl, _, rfl, iteN (by decide +kernel) ?_⟩
      have eQ := eq
      have sH1 := sHG
      obtain ⟨G1, hG1⟩ : ∃ G1, G1 = G := ⟨_, rfl⟩
      rw [← hG1] at eQ sH1 hS ⊢
      have ax := gA
      have wx : Wd (gI own 0) := Wd.get wo (by decide) (by omega)
      refine fun d hd' => ?_
      have sd : Same G1 (upd G1 d (.dK [])) := Same.new hd'
      refine ⟨.ref q, rfl, _, rfl, q, _, _, _, rfl, rfl, SqL.of (sd _ _ eQ), ax, (gI own 0), rfl, wx.log, _, _, rfl, rfl, out_len wx, ?_⟩
      refine ⟨upd_same, [(.inr "store", .str "store"), (.inr "call", .str "call"), (.inr "callby", .str "call"), (.inr "halt", .str "halt"), (.inr "back", .str "back"), (.inr "out", .str (("out " : Str) ++ toString (gI own 0)))], rfl, (by show 6 ≤ 15; decide), ?_⟩
      have se : Same G1 (upd (upd G1 d (.dK [])) d (.dK (mergeK [] [(.inr "store", .str "store"), (.inr "call", .str "call"), (.inr "callby", .str "call"), (.inr "halt", .str "halt"), (.inr "back", .str "back"), (.inr "out", .str (("out " : Str) ++ toString (gI own 0)))]))) := Same.put sd hd'
      have ed : (upd (upd G1 d (.dK [])) d (.dK (mergeK [] [(.inr "store", .str "store"), (.inr "call", .str "call"), (.inr "callby", .str "call"), (.inr "halt", .str "halt"), (.inr "back", .str "back"), (.inr "out", .str (("out " : Str) ++ toString (gI own 0)))]))) d = some (.dK (mergeK [] [(.inr "store", .str "store"), (.inr "call", .str "call"), (.inr "callby", .str "call"), (.inr "halt", .str "halt"), (.inr "back", .str "back"), (.inr "out", .str (("out " : Str) ++ toString (gI own 0)))])) := upd_same
      generalize upd (upd G1 d (.dK [])) d (.dK (mergeK [] [(.inr "store", .str "store"), (.inr "call", .str "call"), (.inr "callby", .str "call"), (.inr "halt", .str "halt"), (.inr "back", .str "back"), (.inr "out", .str (("out " : Str) ++ toString (gI own 0)))])) = GD at se ed ⊢
      have sF := sH1.trans se
      refine ⟨_, rfl, _, rfl, .ref d, rfl, d, rfl, .inl ⟨_, .inl ed⟩, .ref a, rfl, a, _, 0, _, rfl, rfl, Same.sqT se hS, atI_nat (j := 0) rfl, _, rfl, _, DGet.k (k := .inr "jump") ed, (by show 3 ≤ sizeLine; decide), fun p hp => ?_⟩
      exact k _ p q (sF.trans (Same.new hp)) (sF.free hp) upd_same (se _ _ eQ |> Same.new hp _ _)
    | @call t ht =>
      obtain rfl : A0 = 0 := by rw [← hA]; rw [regL_n (hz _ ht)]; rfl
      obtain ⟨gA, iA⟩ := t3_at l4 (i := 0) (by decide)
      refine ⟨.ref a, rfl, a, _, 0, _, rfl, rfl, hS, atI_nat (j := 0) rfl, rfl, _, rfl, iteN (by decide +kernel) ?_⟩
      refine ⟨.ref a, rfl, a, _, 0, _, rfl, rfl, hS, atI_nat (j := 0) rfl, rfl, _, rfl, iteN (by decide +kernel) ?_⟩
      refine ⟨.ref a, rfl, a, _, 0, _, rfl, rfl, hS, atI_nat (j := 0) rfl, rfl, _, rfl, iteN (by decide +kernel) ?_⟩
      refine ⟨.ref a, rfl, a, _, 0, _, rfl, rfl, hS, atI_nat (j := 0) rfl, rfl, _, rfl, iteN (by decide +kernel) ?_⟩
      refine ⟨.ref a, rfl, a, _, 0, _, rfl, rfl, hS, atI_nat (j := 0) rfl, rfl, _, rfl, iteN (by decide +kernel) ?_⟩
      refine ⟨.ref a, rfl, a, _, 0, _, rfl, rfl, hS, atI_nat (j := 0) rfl, rfl, _, rfl, iteN (by decide +kernel) ?_⟩
      refine ⟨.ref a, rfl, a, _, 0, _, rfl, rfl, hS, atI_nat (j := 0) rfl, rfl, _, rfl, iteN (by decide +kernel) ⟨.ref a, rfl, a, _, 0, _, rfl, rfl, hS, atI_nat (j := 0) rfl, rfl, _, rfl, iteN (by decide +kernel) ⟨.ref a, rfl, a, _, 0, _, rfl, rfl, hS, atI_nat (j := 0) rfl, rfl, _, rfl, iteY (by decide +kernel) ⟨_, rfl, ?_⟩⟩⟩⟩
      refine ⟨.ref a, rfl, a, _, 0, _, rfl, rfl, hS, atI_nat (j := 0) rfl, rfl, _, rfl, iteN (by decide +kernel) ?_⟩
      have eQ := eq
      have sH1 := sHG
      obtain ⟨G1, hG1⟩ : ∃ G1, G1 = G := ⟨_, rfl⟩
      rw [← hG1] at eQ sH1 hS ⊢
      have ax := gA
      have wx : Wd (gI own 0) := Wd.get wo (by decide) (by omega)
      refine fun d hd' => ?_
      have sd : Same G1 (upd G1 d (.dK [])) := Same.new hd'
      refine ⟨.ref q, rfl, _, rfl, q, _, _, _, rfl, rfl, SqL.of (sd _ _ eQ), ax, (gI own 0), rfl, wx.log, _, _, rfl, rfl, out_len wx, ?_⟩
      refine ⟨upd_same, [(.inr "store", .str "store"), (.inr "call", .str "call"), (.inr "callby", .str "call"), (.inr "halt", .str "halt"), (.inr "back", .str "back"), (.inr "out", .str (("out " : Str) ++ toString (gI own 0)))], rfl, (by show 6 ≤ 15; decide), ?_⟩
      have se : Same G1 (upd (upd G1 d (.dK [])) d (.dK (mergeK [] [(.inr "store", .str "store"), (.inr "call", .str "call"), (.inr "callby", .str "call"), (.inr "halt", .str "halt"), (.inr "back", .str "back"), (.inr "out", .str (("out " : Str) ++ toString (gI own 0)))]))) := Same.put sd hd'
      have ed : (upd (upd G1 d (.dK [])) d (.dK (mergeK [] [(.inr "store", .str "store"), (.inr "call", .str "call"), (.inr "callby", .str "call"), (.inr "halt", .str "halt"), (.inr "back", .str "back"), (.inr "out", .str (("out " : Str) ++ toString (gI own 0)))]))) d = some (.dK (mergeK [] [(.inr "store", .str "store"), (.inr "call", .str "call"), (.inr "callby", .str "call"), (.inr "halt", .str "halt"), (.inr "back", .str "back"), (.inr "out", .str (("out " : Str) ++ toString (gI own 0)))])) := upd_same
      generalize upd (upd G1 d (.dK [])) d (.dK (mergeK [] [(.inr "store", .str "store"), (.inr "call", .str "call"), (.inr "callby", .str "call"), (.inr "halt", .str "halt"), (.inr "back", .str "back"), (.inr "out", .str (("out " : Str) ++ toString (gI own 0)))])) = GD at se ed ⊢
      have sF := sH1.trans se
      refine ⟨_, rfl, _, rfl, .ref d, rfl, d, rfl, .inl ⟨_, .inl ed⟩, .ref a, rfl, a, _, 0, _, rfl, rfl, Same.sqT se hS, atI_nat (j := 0) rfl, _, rfl, _, DGet.k (k := .inr "call") ed, (by show 3 ≤ sizeLine; decide), fun p hp => ?_⟩
      exact k _ p q (sF.trans (Same.new hp)) (sF.free hp) upd_same (se _ _ eQ |> Same.new hp _ _)
    | @callby r1 hr =>
      obtain rfl : A0 = regN r1 := by rw [← hA, regL_c hr]; rfl
      obtain ⟨gA, iA⟩ := t3_at l4 (regN_2 hr)
      refine ⟨.ref a, rfl, a, _, 0, _, rfl, rfl, hS, atI_nat (j := 0) rfl, rfl, _, rfl, iteN (by decide +kernel) ?_⟩
      refine ⟨.ref a, rfl, a, _, 0, _, rfl, rfl, hS, atI_nat (j := 0) rfl, rfl, _, rfl, iteN (by decide +kernel) ?_⟩
      refine ⟨.ref a, rfl, a, _, 0, _, rfl, rfl, hS, atI_nat (j := 0) rfl, rfl, _, rfl, iteN (by decide +kernel) ?_⟩
      refine ⟨.ref a, rfl, a, _, 0, _, rfl, rfl, hS, atI_nat (j := 0) rfl, rfl, _, rfl, iteN (by decide +kernel) ?_⟩
      refine ⟨.ref a, rfl, a, _, 0, _, rfl, rfl, hS, atI_nat (j := 0) rfl, rfl, _, rfl, iteN (by decide +kernel) ?_⟩
      refine ⟨.ref a, rfl, a, _, 0, _, rfl, rfl, hS, atI_nat (j := 0) rfl, rfl, _, rfl, iteN (by decide +kernel) ?_⟩
      refine ⟨.ref a, rfl, a, _, 0, _, rfl, rfl, hS, atI_nat (j := 0) rfl, rfl, _, rfl, iteN (by decide +kernel) ⟨.ref a, rfl, a, _, 0, _, rfl, rfl, hS, atI_nat (j := 0) rfl, rfl, _, rfl, iteN (by decide +kernel) ⟨.ref a, rfl, a, _, 0, _, rfl, rfl, hS, atI_nat (j := 0) rfl, rfl, _, rfl, iteN (by decide +kernel) ?_⟩⟩⟩
      refine ⟨.ref a, rfl, a, _, 0, _, rfl, rfl, hS, atI_nat (j := 0) rfl, rfl, _, rfl, iteY (by decide +kernel) ?_⟩
      refine ⟨.ref q, rfl, _, rfl, q, _, _, _, rfl, rfl, SqL.of eq, gA, ?_⟩
      have eQ := eq
      have sH1 := sHG
      obtain ⟨G1, hG1⟩ : ∃ G1, G1 = G := ⟨_, rfl⟩
      rw [← hG1] at eQ sH1 hS ⊢
      have ax := gA
      have wx : Wd (gI own (regN r1)) := Wd.get wo (regN_0 hr).1 (by have := regN_2 hr; omega)
      refine fun d hd' => ?_
      have sd : Same G1 (upd G1 d (.dK [])) := Same.new hd'
      refine ⟨.ref q, rfl, _, rfl, q, _, _, _, rfl, rfl, SqL.of (sd _ _ eQ), ax, (gI own (regN r1)), rfl, wx.log, _, _, rfl, rfl, out_len wx, ?_⟩
      refine ⟨upd_same, [(.inr "store", .str "store"), (.inr "call", .str "call"), (.inr "callby", .str "call"), (.inr "halt", .str "halt"), (.inr "back", .str "back"), (.inr "out", .str (("out " : Str) ++ toString (gI own (regN r1))))], rfl, (by show 6 ≤ 15; decide), ?_⟩
      have se : Same G1 (upd (upd G1 d (.dK [])) d (.dK (mergeK [] [(.inr "store", .str "store"), (.inr "call", .str "call"), (.inr "callby", .str "call"), (.inr "halt", .str "halt"), (.inr "back", .str "back"), (.inr "out", .str (("out " : Str) ++ toString (gI own (regN r1))))]))) := Same.put sd hd'
      have ed : (upd (upd G1 d (.dK [])) d (.dK (mergeK [] [(.inr "store", .str "store"), (.inr "call", .str "call"), (.inr "callby", .str "call"), (.inr "halt", .str "halt"), (.inr "back", .str "back"), (.inr "out", .str (("out " : Str) ++ toString (gI own (regN r1))))]))) d = some (.dK (mergeK [] [(.inr "store", .str "store"), (.inr "call", .str "call"), (.inr "callby", .str "call"), (.inr "halt", .str "halt"), (.inr "back", .str "back"), (.inr "out", .str (("out " : Str) ++ toString (gI own (regN r1))))])) := upd_same
      generalize upd (upd G1 d (.dK [])) d (.dK (mergeK [] [(.inr "store", .str "store"), (.inr "call", .str "call"), (.inr "callby", .str "call"), (.inr "halt", .str "halt"), (.inr "back", .str "back"), (.inr "out", .str (("out " : Str) ++ toString (gI own (regN r1))))])) = GD at se ed ⊢
      have sF := sH1.trans se
      refine ⟨_, rfl, _, rfl, .ref d, rfl, d, rfl, .inl ⟨_, .inl ed⟩, .ref a, rfl, a, _, 0, _, rfl, rfl, Same.sqT se hS, atI_nat (j := 0) rfl, _, rfl, _, DGet.k (k := .inr "callby") ed, (by show 3 ≤ sizeLine; decide), fun p hp => ?_⟩
      exact k _ p q (sF.trans (Same.new hp)) (sF.free hp) upd_same (se _ _ eQ |> Same.new hp _ _)
    | @ifzero r1 t hr ht =>
      obtain rfl : A0 = regN r1 := by rw [← hA, regL_c hr]; rfl
      obtain ⟨gA, iA⟩ := t3_at l4 (regN_2 hr)
      refine ⟨.ref a, rfl, a, _, 0, _, rfl, rfl, hS, atI_nat (j := 0) rfl, rfl, _, rfl, iteN (by decide +kernel) ?_⟩
      refine ⟨.ref a, rfl, a, _, 0, _, rfl, rfl, hS, atI_nat (j := 0) rfl, rfl, _, rfl, iteN (by decide +kernel) ?_⟩
      refine ⟨.ref a, rfl, a, _, 0, _, rfl, rfl, hS, atI_nat (j := 0) rfl, rfl, _, rfl, iteN (by decide +kernel) ?_⟩
      refine ⟨.ref a, rfl, a, _, 0, _, rfl, rfl, hS, atI_nat (j := 0) rfl, rfl, _, rfl, iteN (by decide +kernel) ?_⟩
      refine ⟨.ref a, rfl, a, _, 0, _, rfl, rfl, hS, atI_nat (j := 0) rfl, rfl, _, rfl, iteN (by decide +kernel) ?_⟩
      refine ⟨.ref a, rfl, a, _, 0, _, rfl, rfl, hS, atI_nat (j := 0) rfl, rfl, _, rfl, iteN (by decide +kernel) ?_⟩
      by_cases z : gI own (regN r1) = 0
      · refine ⟨.ref a, rfl, a, _, 0, _, rfl, rfl, hS, atI_nat (j := 0) rfl, rfl, _, rfl, iteN (by decide +kernel) ⟨.ref a, rfl, a, _, 0, _, rfl, rfl, hS, atI_nat (j := 0) rfl, rfl, _, rfl, iteY (by decide +kernel) ⟨.ref q, rfl, _, rfl, q, _, _, _, rfl, rfl, SqL.of eq, gA, rfl, _, rfl, iteY (by rw [z]) (iteT ⟨_, rfl, ?_⟩)⟩⟩⟩
        refine ⟨.ref a, rfl, a, _, 0, _, rfl, rfl, hS, atI_nat (j := 0) rfl, rfl, _, rfl, iteN (by decide +kernel) ?_⟩
        rw [if_pos z] at k
        have eQ := eq
        have sH1 := sHG
        obtain ⟨G1, hG1⟩ : ∃ G1, G1 = G := ⟨_, rfl⟩
        rw [← hG1] at eQ sH1 hS ⊢
        have ax := gA
        have wx : Wd (gI own (regN r1)) := Wd.get wo (regN_0 hr).1 (by have := regN_2 hr; omega)
        refine fun d hd' => ?_
        have sd : Same G1 (upd G1 d (.dK [])) := Same.new hd'
        refine ⟨.ref q, rfl, _, rfl, q, _, _, _, rfl, rfl, SqL.of (sd _ _ eQ), ax, (gI own (regN r1)), rfl, wx.log, _, _, rfl, rfl, out_len wx, ?_⟩
        refine ⟨upd_same, [(.inr "store", .str "store"), (.inr "call", .str "call"), (.inr "callby", .str "call"), (.inr "halt", .str "halt"), (.inr "back", .str "back"), (.inr "out", .str (("out " : Str) ++ toString (gI own (regN r1))))], rfl, (by show 6 ≤ 15; decide), ?_⟩
        have se : Same G1 (upd (upd G1 d (.dK [])) d (.dK (mergeK [] [(.inr "store", .str "store"), (.inr "call", .str "call"), (.inr "callby", .str "call"), (.inr "halt", .str "halt"), (.inr "back", .str "back"), (.inr "out", .str (("out " : Str) ++ toString (gI own (regN r1))))]))) := Same.put sd hd'
        have ed : (upd (upd G1 d (.dK [])) d (.dK (mergeK [] [(.inr "store", .str "store"), (.inr "call", .str "call"), (.inr "callby", .str "call"), (.inr "halt", .str "halt"), (.inr "back", .str "back"), (.inr "out", .str (("out " : Str) ++ toString (gI own (regN r1))))]))) d = some (.dK (mergeK [] [(.inr "store", .str "store"), (.inr "call", .str "call"), (.inr "callby", .str "call"), (.inr "halt", .str "halt"), (.inr "back", .str "back"), (.inr "out", .str (("out " : Str) ++ toString (gI own (regN r1))))])) := upd_same
        generalize upd (upd G1 d (.dK [])) d (.dK (mergeK [] [(.inr "store", .str "store"), (.inr "call", .str "call"), (.inr "callby", .str "call"), (.inr "halt", .str "halt"), (.inr "back", .str "back"), (.inr "out", .str (("out " : Str) ++ toString (gI own (regN r1))))])) = GD at se ed ⊢
        have sF := sH1.trans se
        refine ⟨_, rfl, _, rfl, .ref d, rfl, d, rfl, .inl ⟨_, .inl ed⟩, .ref a, rfl, a, _, 0, _, rfl, rfl, Same.sqT se hS, atI_nat (j := 0) rfl, _, rfl, _, DGet.k (k := .inr "ifzero") ed, (by show 3 ≤ sizeLine; decide), fun p hp => ?_⟩
        exact k _ p q (sF.trans (Same.new hp)) (sF.free hp) upd_same (se _ _ eQ |> Same.new hp _ _)
      · refine ⟨.ref a, rfl, a, _, 0, _, rfl, rfl, hS, atI_nat (j := 0) rfl, rfl, _, rfl, iteN (by decide +kernel) ⟨.ref a, rfl, a, _, 0, _, rfl, rfl, hS, atI_nat (j := 0) rfl, rfl, _, rfl, iteY (by decide +kernel) ⟨.ref q, rfl, _, rfl, q, _, _, _, rfl, rfl, SqL.of eq, gA, rfl, _, rfl, iteN (fun e => z (V.int.inj e)) ⟨.ref a, rfl, a, _, 0, _, rfl, rfl, hS, atI_nat (j := 0) rfl, rfl, _, rfl, iteN (by decide +kernel) ?_⟩⟩⟩⟩
        refine ⟨.ref a, rfl, a, _, 0, _, rfl, rfl, hS, atI_nat (j := 0) rfl, rfl, _, rfl, iteN (by decide +kernel) ?_⟩
        rw [if_neg z] at k
        have eQ := eq
        have sH1 := sHG
        obtain ⟨G1, hG1⟩ : ∃ G1, G1 = G := ⟨_, rfl⟩
        rw [← hG1] at eQ sH1 hS ⊢
        have ax := gA
        have wx : Wd (gI own (regN r1)) := Wd.get wo (regN_0 hr).1 (by have := regN_2 hr; omega)
        refine fun d hd' => ?_
        have sd : Same G1 (upd G1 d (.dK [])) := Same.new hd'
        refine ⟨.ref q, rfl, _, rfl, q, _, _, _, rfl, rfl, SqL.of (sd _ _ eQ), ax, (gI own (regN r1)), rfl, wx.log, _, _, rfl, rfl, out_len wx, ?_⟩
        refine ⟨upd_same, [(.inr "store", .str "store"), (.inr "call", .str "call"), (.inr "callby", .str "call"), (.inr "halt", .str "halt"), (.inr "back", .str "back"), (.inr "out", .str (("out " : Str) ++ toString (gI own (regN r1))))], rfl, (by show 6 ≤ 15; decide), ?_⟩
        have se : Same G1 (upd (upd G1 d (.dK [])) d (.dK (mergeK [] [(.inr "store", .str "store"), (.inr "call", .str "call"), (.inr "callby", .str "call"), (.inr "halt", .str "halt"), (.inr "back", .str "back"), (.inr "out", .str (("out " : Str) ++ toString (gI own (regN r1))))]))) := Same.put sd hd'
        have ed : (upd (upd G1 d (.dK [])) d (.dK (mergeK [] [(.inr "store", .str "store"), (.inr "call", .str "call"), (.inr "callby", .str "call"), (.inr "halt", .str "halt"), (.inr "back", .str "back"), (.inr "out", .str (("out " : Str) ++ toString (gI own (regN r1))))]))) d = some (.dK (mergeK [] [(.inr "store", .str "store"), (.inr "call", .str "call"), (.inr "callby", .str "call"), (.inr "halt", .str "halt"), (.inr "back", .str "back"), (.inr "out", .str (("out " : Str) ++ toString (gI own (regN r1))))])) := upd_same
        generalize upd (upd G1 d (.dK [])) d (.dK (mergeK [] [(.inr "store", .str "store"), (.inr "call", .str "call"), (.inr "callby", .str "call"), (.inr "halt", .str "halt"), (.inr "back", .str "back"), (.inr "out", .str (("out " : Str) ++ toString (gI own (regN r1))))])) = GD at se ed ⊢
        have sF := sH1.trans se
        refine ⟨_, rfl, _, rfl, .ref d, rfl, d, rfl, .inl ⟨_, .inl ed⟩, .ref a, rfl, a, _, 0, _, rfl, rfl, Same.sqT se hS, atI_nat (j := 0) rfl, _, rfl, _, DGet.k (k := .inr "ifzero") ed, (by show 3 ≤ sizeLine; decide), fun p hp => ?_⟩
        exact k _ p q (sF.trans (Same.new hp)) (sF.free hp) upd_same (se _ _ eQ |> Same.new hp _ _)
end

section
variable {P : Program} {w : World} {K : PySem.W.Frag} {mg : Str → Option Value} {base : Heap} {Z : Fs}
theorem cut_from4 {xs : List V} (k : Nat) : cutV xs (some (k : Int)) none = xs.drop k := by
  unfold cutV
  rw [HT.sIx_nat, HT.sIx_none, List.take_of_length_le (by rw [List.length_drop]; omega)]
  by_cases h : k ≤ xs.length
  · rw [Nat.min_eq_left h]
  · rw [Nat.min_eq_right (by omega), List.drop_of_length_le (Nat.le_refl _), List.drop_of_length_le (by omega)]
theorem cut_to3 {xs : List V} (k : Nat) : cutV xs none (some (k : Int)) = xs.take k := by
  unfold cutV
  rw [HT.sIx_nat, HT.sIx_none, List.drop_zero, Nat.sub_zero]
  by_cases h : k ≤ xs.length
  · rw [Nat.min_eq_left h]
  · rw [Nat.min_eq_right (by omega), List.take_of_length_le (Nat.le_refl _), List.take_of_length_le (by omega)]
def sp_law_without_third (K : PySem.W.Frag) : Sp := fun vs H Q _ => ∃ (p q : Addr) (s : MS), vs = [.ref p] ∧ H p = some (.tup [.ref q, .int s.here, .str s.way]) ∧ OwnAt H q s.own s.st ∧ s.own.length = 4 ∧ ∀ (H' : Hp) (p' q' : Addr), Same H H' → H' p' = some (.tup [.ref q', .int (w3 s).here, .str (w3 s).way]) → OwnAt H' q' (w3 s).own (w3 s).st → Q (.ref p') H'
theorem ok_law_without_third (T : Txt K w mg Z) : FnOk P w K mg base CX0 1 Z.a_law_without_third Z.d_law_without_third ["_law_done_here"] (sp_law_without_third K) := by
  refine T.F_law_without_third.ok sc_law_without_third (fun vs H Q E h => ?_) (fun cdv A outer s H vs Q E hr h => ?_)
  · obtain ⟨p, q, s, rfl, _⟩ := h
    rfl
  · obtain ⟨p, q, s, rfl, ep, oa, l4, k⟩ := h
    refine ⟨_, (pss_one (ps_ret (pe_tup (pa_cons (pe_op op_cat (pe_slice sl_list (pe_ix ix_tup (pv 0) pe_int (fun _ _ => rfl)) po_none (po_some pe_int)) (pe_slice sl_list (pe_ix ix_tup (pv 0) pe_int (fun _ _ => rfl)) (po_some pe_int) po_none)) (pa_cons (pe_ix ix_tup (pv 0) pe_int (fun _ _ => rfl)) (pa_cons (pe_ifExp (pt_cmpR op_eq (pe_ix ix_tup (pv 0) pe_int (fun _ _ => rfl)) pe_str (nomark _)) pe_str (pe_ix ix_tup (pv 0) pe_int (fun _ _ => rfl))) pa_nil)))))), ?_⟩
    obtain ⟨xs, rest, eq, hx, hr', lr, fin⟩ : ∃ xs rest : List V, H q = some (.lst xs) ∧ xs.take 3 = (s.own.take 3).map V.int ∧ xs.drop 4 = rest ∧ rest.length ≤ 1 ∧ ∀ (H' : Hp) (c : Addr), Same H H' → H' c = some (.lst ((s.own.take 3).map V.int ++ rest)) → OwnAt H' c (s.own.take 3) s.st := by
      cases hst : s.st with
      | none =>
        rw [hst] at oa
        refine ⟨_, [], oa, by rw [List.map_take], by rw [List.drop_of_length_le (by rw [List.length_map]; omega)], by decide, fun H' c s' e => ?_⟩
        rw [List.append_nil] at e
        exact e
      | some xy =>
        rw [hst] at oa
        obtain ⟨t, h1, h2⟩ := oa
        refine ⟨_, [.ref t], h1, ?_, ?_, Nat.le_refl 1, fun H' c s' e => ⟨t, e, s' _ _ h2⟩⟩
        · rw [List.take_append_of_le_length (by rw [List.length_map]; omega), List.map_take]
        · rw [List.drop_append_of_le_length (by rw [List.length_map]; omega), List.drop_of_length_le (by rw [List.length_map]; omega)]
          rfl
    refine ⟨.ref p, rfl, p, _, 0, _, rfl, rfl, SqT.of ep, atI_nat (j := 0) rfl, 3, rfl, q, _, rfl, SqL.of eq, fun c1 h1 => ?_⟩
    rw [show cutV xs none (some 3) = (s.own.take 3).map V.int from (cut_to3 3).trans hx]
    have s1 : Same H (upd H c1 (.lst ((s.own.take 3).map V.int))) := Same.new h1
    have e1 : (upd H c1 (.lst ((s.own.take 3).map V.int))) c1 = some (.lst ((s.own.take 3).map V.int)) := upd_same
    generalize upd H c1 (.lst ((s.own.take 3).map V.int)) = H1 at s1 e1 ⊢
    refine ⟨.ref p, rfl, p, _, 0, _, rfl, rfl, SqT.of (s1 _ _ ep), atI_nat (j := 0) rfl, 4, rfl, q, _, rfl, SqL.of (s1 _ _ eq), fun c2 h2 => ?_⟩
    rw [show cutV xs (some 4) none = rest from (cut_from4 4).trans hr']
    have s2 : Same H1 (upd H1 c2 (.lst rest)) := Same.new h2
    have e2 : (upd H1 c2 (.lst rest)) c2 = some (.lst rest) := upd_same
    generalize upd H1 c2 (.lst rest) = H2 at s2 e2 ⊢
    refine ⟨c1, c2, _, _, rfl, rfl, s2 _ _ e1, e2, Nat.le_trans (show _ ≤ 4 by rw [List.length_map, List.length_take]; omega) (by decide), fun c3 h3 => ?_⟩
    have s3 : Same H2 (upd H2 c3 (.lst ((s.own.take 3).map V.int ++ rest))) := Same.new h3
    have e3 : (upd H2 c3 (.lst ((s.own.take 3).map V.int ++ rest))) c3 = some (.lst ((s.own.take 3).map V.int ++ rest)) := upd_same
    generalize upd H2 c3 (.lst ((s.own.take 3).map V.int ++ rest)) = H3 at s3 e3 ⊢
    have tt := (s1.trans s2).trans s3
    have ep3 := tt _ _ ep
    refine ⟨.ref p, rfl, p, _, 1, _, rfl, rfl, SqT.of ep3, atI_nat (j := 1) rfl, .ref p, rfl, p, _, 2, _, rfl, rfl, SqT.of ep3, atI_nat (j := 2) rfl, rfl, _, rfl, ite2 (fun hg => ?_) (fun hg => ?_)⟩
    · have e : (w3 s).way = "" := if_pos (V.str.inj (of_decide_eq_true hg))
      refine ⟨(by show 3 ≤ sizeLine; decide), fun p' hp' => ?_⟩
      refine k _ p' c3 (tt.trans (Same.new hp')) ?_ (fin _ c3 (tt.trans (Same.new hp')) ((Same.new hp') _ _ e3))
      rw [e]
      exact upd_same
    · have e : (w3 s).way = s.way := if_neg (fun z => hg (decide_eq_true (by rw [z])))
      refine ⟨.ref p, rfl, p, _, 2, _, rfl, rfl, SqT.of ep3, atI_nat (j := 2) rfl, (by show 3 ≤ sizeLine; decide), fun p' hp' => ?_⟩
      refine k _ p' c3 (tt.trans (Same.new hp')) ?_ (fin _ c3 (tt.trans (Same.new hp')) ((Same.new hp') _ _ e3))
      rw [e]
      exact upd_same
end

/-! ### facts of rows and of what was done, for the law of the machine -/
theorem regL_le (r : List V) : ∀ y ∈ regL r, 0 ≤ y ∧ y ≤ 2 := by
  intro y m
  unfold regL at m
  rcases List.mem_append.mp m with m | m
  · obtain ⟨x, hx, rfl⟩ := List.mem_map.mp m
    have q : inV x regs = true := by simpa using (List.mem_filter.mp hx).2
    by_cases f : flatV x = true
    · exact regN_2 (reg_mem q f)
    · cases x with
      | str z => exact absurd rfl f
      | non => exact absurd rfl f
      | bl k => exact absurd rfl f
      | int i => exact absurd rfl f
      | _ => exact ⟨by show (0 : Int) ≤ 0; decide, by show (0 : Int) ≤ 2; decide⟩
  · rcases List.mem_cons.mp m with rfl | m
    · decide
    · rw [List.mem_singleton.mp m]
      decide
theorem regL_b {r : List V} : 0 ≤ (regL r).getD 1 0 ∧ (regL r).getD 1 0 ≤ 2 := by
  have l : 2 ≤ (regL r).length := by
    unfold regL
    rw [List.length_append]
    show 2 ≤ _ + 2
    omega
  rw [List.getD_eq_getElem?_getD, List.getElem?_eq_getElem (show 1 < (regL r).length by omega)]
  exact regL_le r _ (List.getElem_mem _)
/-- a row that loads or stores -/
theorem CRow.ls {ts : List Str} {u : Str} {r : List V} (h : CRow ts (.str u :: r)) (e : inV (.str u) [.str "load", .str "store"] = true) : ∃ r1 r2 d, r = [r1, r2, .int d] ∧ r1 ∈ regs ∧ r2 ∈ regs ∧ 0 ≤ d ∧ d ≤ 15 := by
  generalize hx : (V.str u :: r) = xs at h
  cases h with
  | load hr hs h0 h1 => cases hx; exact ⟨_, _, _, rfl, hr, hs, h0, h1⟩
  | store hr hs h0 h1 => cases hx; exact ⟨_, _, _, rfl, hr, hs, h0, h1⟩
  | put => cases hx; exact absurd e (by decide +kernel)
  | name => cases hx; exact absurd e (by decide +kernel)
  | ifzero => cases hx; exact absurd e (by decide +kernel)
  | add => cases hx; exact absurd e (by decide +kernel)
  | take => cases hx; exact absurd e (by decide +kernel)
  | jump => cases hx; exact absurd e (by decide +kernel)
  | call => cases hx; exact absurd e (by decide +kernel)
  | callby => cases hx; exact absurd e (by decide +kernel)
  | out => cases hx; exact absurd e (by decide +kernel)
  | back => cases hx; exact absurd e (by decide +kernel)
  | halt => cases hx; exact absurd e (by decide +kernel)
  | room => cases hx; exact absurd e (by decide +kernel)
theorem pairs_get {R : V → V → Prop} : ∀ {xs ys : List V}, Paired R xs ys → ∀ (i : Nat) (u v : V), xs[i]? = some u → ys[i]? = some v → R u v
  | _, _, .nil, _, _, _, h, _ => by cases h
  | _, _, .cons r _, 0, _, _, h, g => by
    cases h
    cases g
    exact r
  | _, _, .cons _ t, i + 1, u, v, h, g => pairs_get t i u v h g
theorem pairs_map {K : PySem.W.Frag} {H : Hp} {n : Nat} {xs ys : List V} (h : Paired (Eqd K H n) xs ys) : ∀ cs : List Int, Paired (Eqd K H n) (cs.map V.int ++ xs) (cs.map V.int ++ ys)
  | [] => h
  | c :: cs => .cons (.flat rfl) (pairs_map h cs)
/-- two lists of registers that tell the same -/
theorem OwnAt.eqd {K : PySem.W.Frag} {H : Hp} {p q : Addr} {own : List Int} {st : Option (Int × Int)} (hl : own.length ≤ 4) (h : OwnAt H p own st) (g : OwnAt H q own st) : Eqd K H 2 (.ref p) (.ref q) := by
  cases st with
  | none => exact .inr ⟨p, q, _, _, rfl, rfl, .inl ⟨SqL.of h, SqL.of g⟩, rfl, by rw [List.length_map]; omega, pairs_get (by
      have z := pairs_map (K := K) (H := H) (n := 1) (xs := []) (ys := []) .nil own
      rw [List.append_nil] at z
      exact z)⟩
  | some xy =>
    obtain ⟨t, h1, h2⟩ := h
    obtain ⟨t', g1, g2⟩ := g
    refine .inr ⟨p, q, _, _, rfl, rfl, .inl ⟨SqL.of h1, SqL.of g1⟩, by rw [List.length_append, List.length_append]; rfl, by rw [List.length_append, List.length_map, List.length_singleton]; omega, pairs_get (pairs_map (.cons ?_ .nil) own)⟩
    exact .inr ⟨t, t', _, _, rfl, rfl, .inr ⟨SqT.of h2, SqT.of g2⟩, rfl, by show 2 ≤ 100000; decide, pairs_get (.cons (.flat rfl) (.cons (.flat rfl) .nil))⟩
/-- two answers that tell the same -/
theorem MS.eqd {K : PySem.W.Frag} {H : Hp} {a b p q : Addr} {s : MS} (hl : s.own.length ≤ 4) (ha : H a = some (.tup [.ref p, .int s.here, .str s.way])) (hb : H b = some (.tup [.ref q, .int s.here, .str s.way])) (h : OwnAt H p s.own s.st) (g : OwnAt H q s.own s.st) : Eqd K H 3 (.ref a) (.ref b) :=
  .inr ⟨a, b, _, _, rfl, rfl, .inr ⟨SqT.of ha, SqT.of hb⟩, rfl, by show 3 ≤ 100000; decide, pairs_get (.cons (h.eqd hl g) (.cons (.flat rfl) (.cons (.flat rfl) .nil)))⟩

section
variable {P : Program} {w : World} {K : PySem.W.Frag} {mg : Str → Option Value} {base : Heap} {Z : Fs}
def sp_law (K : PySem.W.Frag) : Sp := fun vs H Q _ => ∃ (a : Addr) (ns : List Int), vs = [.ref a] ∧ SqL K H a (ns.map V.int) ∧ ns.length ≤ 63 ∧ ∀ H', Q (.bl true) H'
def Rg (x : Int) : Prop := 0 ≤ x ∧ x ≤ 65535
def Outer (b l a t : Addr) (zs : List Str) : L2.St → Hp → Prop := fun σ H => ∃ (y3 y4 y5 y6 y7 y8 y9 y10 y11 y12 y13 y14 y15 y16 : Option V), σ = [some (.ref a), some (.ref b), some (.ref t), y3, y4, y5, y6, y7, y8, y9, y10, y11, y12, y13, y14, y15, y16] ∧ Bag H b l ∧ Tls H b t zs
theorem CRow.putn {ts : List Str} {xs : List V} (h : CRow ts xs) : ∀ n, xs.getD 2 .non = .int n → hd0 xs = .str "put" → 0 ≤ n ∧ n ≤ 65535 := by
  intro n e1 e2
  cases h with
  | put hr h0 h1 => cases e1; exact ⟨h0, h1⟩
  | name => cases e2
  | ifzero => cases e2
  | add => cases e2
  | take => cases e2
  | load => cases e2
  | store => cases e2
  | jump => cases e2
  | call => cases e2
  | callby => cases e2
  | out => cases e2
  | back => cases e2
  | halt => cases e2
  | room => cases e2
theorem Cel.len {ts : List Str} {pl go : Int} {far : Bool} {xs : List V} {cs : List Int} (h : Cel ts pl go far xs cs) : cs.length ≤ 120 := by
  cases h with
  | room h0 h1 => rw [List.length_replicate]; omega
  | word => exact (by decide : 1 ≤ 120)
  | address => exact (by decide : 1 ≤ 120)
  | put => exact (by decide : 2 ≤ 120)
  | one => exact (by decide : 1 ≤ 120)
  | lng h => cases h <;> exact Nat.le_of_ble_eq_true rfl
  | sht => exact (by decide : 1 ≤ 120)
theorem four_set {own : List Int} {m : Int} (h : own.length = 4) : own.take 3 ++ [m] = own.set 3 m := by
  match own, h with
  | [_, _, _, _], _ => rfl
theorem Rg.wd {x : Int} (h : Rg x) : Wd x := ⟨by have := h.1; omega, h.2⟩
theorem in_of {u : Str} {l : List V} (h : inV (.str u) l = true) (hl : ∀ x ∈ l, ∃ z, x = .str z) : V.str u ∈ l := by
  unfold inV at h
  obtain ⟨x, m, e⟩ := List.any_eq_true.mp h
  obtain ⟨z, rfl⟩ := hl x m
  have q : (z == u) = true := e
  rw [beq_iff_eq] at q
  rw [← q]
  exact m
theorem of_in {u : Str} {l : List V} (h : V.str u ∈ l) : inV (.str u) l = true := by
  unfold inV
  refine List.any_eq_true.mpr ⟨_, h, ?_⟩
  show (u == u) = true
  rw [beq_self_eq_true]
theorem ok_law (T : Txt K w mg Z) : FnOk P w K mg base CX0 7 Z.a_law Z.d_law ["_law_script"] (sp_law K) := by
  have G_law_bag : FnOk P w K mg base CX0 1 Z.a_law_bag Z.d_law_bag ["_law_script"] (sp_law_bag K) := ok_law_bag T
  have G_law_draw : FnOk P w K mg base CX0 1 Z.a_law_draw Z.d_law_draw ["_law_bag_here", "_law_sides"] sp_law_draw := ok_law_draw T
  have G_law_titles : FnOk P w K mg base CX0 3 Z.a_law_titles Z.d_law_titles ["_law_bag_here", "_law_many"] (sp_law_titles K) := ok_law_titles T
  have G_law_of : FnOk P w K mg base CX0 2 Z.a_law_of Z.d_law_of ["_law_bag_here", "_law_things"] (sp_law_of K) := ok_law_of T
  have G_law_number : FnOk P w K mg base CX0 3 Z.a_law_number Z.d_law_number ["_law_bag_here"] sp_law_number := ok_law_number T
  have G_law_same : FnOk P w K mg base CX0 4 Z.a_law_same Z.d_law_same ["_law_found", "_law_due_here"] (sp_law_same K 3) := ok_law_same T 3
  have G_law_code_row : FnOk P w K mg base CX0 4 Z.a_law_code_row Z.d_law_code_row ["_law_bag_here", "_law_titles_here"] sp_law_code_row := ok_law_code_row T
  have G_law_last_row : FnOk P w K mg base CX0 3 Z.a_law_last_row Z.d_law_last_row ["_law_bag_here", "_law_titles_here"] sp_law_last_row := ok_law_last_row T
  have G_row_cells : FnOk P w K mg base CX0 5 Z.a_row_cells Z.d_row_cells ["row", "at", "target", "long"] (sp_row_cells K) := ok_row_cells T
  have G_stub_cells : FnOk P w K mg base CX0 4 Z.a_stub_cells Z.d_stub_cells ["slot"] sp_stub_cells := ok_stub_cells T
  have G_law_done : FnOk P w K mg base CX0 1 Z.a_law_done Z.d_law_done ["_law_lot", "_law_place_y", "_law_registers", "_law_held"] (sp_law_done K) := ok_law_done T
  have G_law_due : FnOk P w K mg base CX0 1 Z.a_law_due Z.d_law_due ["_law_one", "_law_place_y", "_law_goal", "_law_registers", "_law_held", "_law_size"] (sp_law_due K) := ok_law_due T
  have G_law_without_third : FnOk P w K mg base CX0 1 Z.a_law_without_third Z.d_law_without_third ["_law_done_here"] (sp_law_without_third K) := ok_law_without_third T
  refine T.F_law.ok sc_law (fun vs H Q E h => ?_) (fun cdv A outer s H vs Q E hr h => ?_)
  · obtain ⟨a, ns, rfl, _⟩ := h
    rfl
  · obtain ⟨a, ns, rfl, hS, hlen, k⟩ := h
    refine ⟨_, (pss_cons (ps_set (i := 1) sc_law.nd rfl (Or.inr rfl) (pe_call G_law_bag (hr.mono (by omega)) (by rfl) T.m_law_bag T.F_law_bag.kp T.b_law_bag .nil pass0 (pa_cons (pv 0) pa_nil)))
      (pss_cons (ps_set (i := 2) sc_law.nd rfl (Or.inl rfl) (pe_call G_law_titles (hr.mono (by omega)) (by rfl) T.m_law_titles T.F_law_titles.kp T.b_law_titles .nil pass0 (pa_cons (pv 1) (pa_cons pe_int pa_nil))))
      (pss_cons (ps_for PassesOwn.never rfl (pi_range1 (by rfl) T.n_range (pa_cons pe_int pa_nil)) (pg_name (i := 3) sc_law.nd rfl (Or.inl rfl)) (C8.pss_cut (ps_set (i := 4) sc_law.nd rfl (Or.inl rfl) (pe_ifExp (pt_cmpR op_lt (pv 3) pe_int (nomark _)) (pe_call G_law_code_row (hr.mono (by omega)) (by rfl) T.m_law_code_row T.F_law_code_row.kp T.b_law_code_row .nil pass0 (pa_cons (pv 1) (pa_cons (pv 2) pa_nil))) (pe_call G_law_last_row (hr.mono (by omega)) (by rfl) T.m_law_last_row T.F_law_last_row.kp T.b_law_last_row .nil pass0 (pa_cons (pv 1) (pa_cons (pv 2) pa_nil)))))
      (pss_cons (ps_if (pt_cmpR op_eq (pe_ix ix_tup (pv 4) pe_int (fun _ _ => rfl)) pe_str (nomark _)) (pss_one ps_continue) pss_nil)
      (pss_cons (ps_set (i := 5) sc_law.nd rfl (Or.inl rfl) (pe_call G_law_of (hr.mono (by omega)) (by rfl) T.m_law_of T.F_law_of.kp T.b_law_of .nil pass0 (pa_cons (pv 1) (pa_cons (pe_lst (pa_cons pe_int (pa_cons pe_int (pa_cons pe_int (pa_cons (pe_call G_law_draw (hr.mono (by omega)) (by rfl) T.m_law_draw T.F_law_draw.kp T.b_law_draw .nil pass0 (pa_cons (pv 1) (pa_cons pe_int pa_nil))) pa_nil))))) pa_nil))))
      (pss_cons (ps_setLc (i := 6) (own := [("_law_k", 7)]) (g := gName 7) (tt := tYes) rfl sc_law.nd rfl rfl (sw_true rfl rfl rfl (by decide +kernel)) (pi_range1 (by rfl) T.n_range (pa_cons pe_int pa_nil)) (blkOk_by (N := N_law) (sc := defScope s_law) (by decide +kernel)) (fun _ _ _ _ _ => pg_name (i := 7) sc_law.nd rfl (Or.inl rfl)) (fun _ _ _ _ _ => pts_nil) (fun _ _ _ _ _ => (pe_call G_law_of (hr.mono (by omega)) (by rfl) T.m_law_of T.F_law_of.kp T.b_law_of .nil pass0 (pa_cons (pv 1) (pa_cons (pe_lst (pa_cons pe_int (pa_cons pe_int (pa_cons (pe_call G_law_number (hr.mono (by omega)) (by rfl) T.m_law_number T.F_law_number.kp T.b_law_number .nil pass0 (pa_cons (pv 1) pa_nil)) pa_nil)))) pa_nil)))))
      (pss_cons (ps_set (i := 8) sc_law.nd rfl (Or.inl rfl) (pe_op op_cat (pe_lc (own := [("_law_item", 9)]) (g := gName 9) rfl sc_law.nd (pi_tup (pe_slice sl_tup (pv 4) (po_some pe_int) po_none)) (blkOk_by (N := N_law) (sc := defScope s_law) (by decide +kernel)) (fun _ _ _ _ _ => pg_name (i := 9) sc_law.nd rfl (Or.inl rfl)) (fun _ _ _ _ _ => pts_one (pt_cmpR (op_in_seq : OpR _ _ (rIn K false)) (pv 9) (pe_lst (pa_cons pe_str (pa_cons pe_str (pa_cons pe_str pa_nil)))) (by rfl))) (fun _ _ _ _ _ => (pe_callTy call_int_str (by rfl) T.n_int boot_int (pa_cons (pe_ix ix_str (pv 9) pe_int (fun _ _ => rfl)) pa_nil)))) (pe_lst (pa_cons pe_int (pa_cons pe_int pa_nil)))))
      (C8.pss_cut (ps_set (i := 10) sc_law.nd rfl (Or.inl rfl) (pe_tup (pa_cons (pe_op op_mod (pe_callTy call_int1 (by rfl) T.n_int boot_int (pa_cons (pe_op op_add (pe_ix ix_list (pv 6) (pe_ix ix_list (pv 8) pe_int (fun _ _ => rfl)) (fun _ _ => rfl)) (pe_ifExp (pt_cmpR (op_in_seq : OpR _ _ (rIn K false)) (pe_ix ix_tup (pv 4) pe_int (fun _ _ => rfl)) (pe_lst (pa_cons pe_str (pa_cons pe_str pa_nil))) (by rfl)) (pe_ix ix_tup (pv 4) pe_int (fun _ _ => rfl)) pe_int)) pa_nil)) pe_int) (pa_cons (pe_call G_law_number (hr.mono (by omega)) (by rfl) T.m_law_number T.F_law_number.kp T.b_law_number .nil pass0 (pa_cons (pv 1) pa_nil)) pa_nil))))
      (pss_one (ps_for PassesOwn.never rfl (pi_list (pe_lst (pa_cons pe_bl (pa_cons pe_bl pa_nil)))) (pg_name (i := 11) sc_law.nd rfl (Or.inl rfl)) (pss_cons (ps_set (i := 12) sc_law.nd rfl (Or.inl rfl) (pe_op op_mod (pe_callTy call_int1 (by rfl) T.n_int boot_int (pa_cons (pe_op op_add (pe_op op_add (pv 5) (pe_call G_law_draw (hr.mono (by omega)) (by rfl) T.m_law_draw T.F_law_draw.kp T.b_law_draw .nil pass0 (pa_cons (pv 1) (pa_cons pe_int pa_nil)))) pe_int) pa_nil)) pe_int))
      (C8.pss_cut (ps_if (PW.pt (pw_or (pt_val (pv 11)) (pw_or1 (pt_cmpR op_notIn_seq (pe_ix ix_tup (pv 4) pe_int (fun _ _ => rfl)) (pe_lst (pa_cons pe_str (pa_cons pe_str (pa_cons pe_str (pa_cons pe_str pa_nil))))) (by rfl))))) (pss_one (ps_set (i := 12) sc_law.nd rfl (Or.inl rfl) (pe_call G_law_of (hr.mono (by omega)) (by rfl) T.m_law_of T.F_law_of.kp T.b_law_of .nil pass0 (pa_cons (pv 1) (pa_cons (pe_lst (pa_cons (pv 12) (pa_cons (pe_call G_law_number (hr.mono (by omega)) (by rfl) T.m_law_number T.F_law_number.kp T.b_law_number .nil pass0 (pa_cons (pv 1) pa_nil)) (pa_cons pe_int (pa_cons pe_int (pa_cons pe_int pa_nil)))))) pa_nil))))) pss_nil)
      (pss_cons (ps_set (i := 13) sc_law.nd rfl (Or.inl rfl) (pe_call G_row_cells (hr.mono (by omega)) (by rfl) T.m_row_cells T.F_row_cells.kp (Classical.choose_spec T.d_row_cells_4).2 (Classical.choose_spec T.d_row_cells_4).1 pass0 (pa_cons (pv 4) (pa_cons (pv 5) (pa_cons (pv 12) (pa_cons (pv 11) pa_nil))))))
      (C8.pss_cut (ps_if (PW.pt (pw_and (pt_cmpR op_lt (pe_op op_mod (pe_callTy call_int1 (by rfl) T.n_int boot_int (pa_cons (pe_op op_add (pe_op op_sub (pv 12) (pv 5)) pe_int) pa_nil)) pe_int) (pe_callB call_len (by rfl) T.n_len boot_len (pa_cons (pv 13) pa_nil)) (nomark _)) (pw_and1 (pt_cmpR (op_in_seq : OpR _ _ (rIn K false)) (pe_ix ix_tup (pv 4) pe_int (fun _ _ => rfl)) (pe_lst (pa_cons pe_str (pa_cons pe_str pa_nil))) (by rfl))))) (pss_one ps_continue) pss_nil)
      (pss_cons (ps_set (i := 14) sc_law.nd rfl (Or.inl rfl) (pe_call G_law_without_third (hr.mono (by omega)) (by rfl) T.m_law_without_third T.F_law_without_third.kp T.b_law_without_third .nil pass0 (pa_cons (pe_call G_law_done (hr.mono (by omega)) (by rfl) T.m_law_done T.F_law_done.kp T.b_law_done .nil pass0 (pa_cons (pv 13) (pa_cons (pv 5) (pa_cons (pv 6) (pa_cons (pv 10) pa_nil))))) pa_nil)))
      (pss_one (ps_if (pt_not (pt_val (pe_call G_law_same (hr.mono (by omega)) (by rfl) T.m_law_same T.F_law_same.kp T.b_law_same .nil pass0 (pa_cons (pv 14) (pa_cons (pe_call G_law_due (hr.mono (by omega)) (by rfl) T.m_law_due T.F_law_due.kp T.b_law_due .nil pass0 (pa_cons (pv 4) (pa_cons (pv 5) (pa_cons (pv 12) (pa_cons (pv 6) (pa_cons (pv 10) (pa_cons (pe_callB call_len (by rfl) T.n_len boot_len (pa_cons (pv 13) pa_nil)) pa_nil))))))) pa_nil))))) (pss_one (ps_ret pe_bl)) pss_nil))))))))))))))))
      (pss_cons (ps_for PassesOwn.never rfl (pi_range1 (by rfl) T.n_range (pa_cons pe_int pa_nil)) (pg_name (i := 3) sc_law.nd rfl (Or.inl rfl)) (pss_cons (ps_par3 (i := 5) (j := 15) (l := 16) (by rfl) sc_law.nd rfl rfl rfl (by decide) (by decide) (by decide) rfl rfl rfl (pa_cons (pe_call G_law_draw (hr.mono (by omega)) (by rfl) T.m_law_draw T.F_law_draw.kp T.b_law_draw .nil pass0 (pa_cons (pv 1) (pa_cons pe_int pa_nil))) (pa_cons (pe_call G_law_number (hr.mono (by omega)) (by rfl) T.m_law_number T.F_law_number.kp T.b_law_number .nil pass0 (pa_cons (pv 1) pa_nil)) (pa_cons (pe_call G_law_number (hr.mono (by omega)) (by rfl) T.m_law_number T.F_law_number.kp T.b_law_number .nil pass0 (pa_cons (pv 1) pa_nil)) pa_nil))) (by rfl))
      (pss_cons (ps_setLc (i := 6) (own := [("_law_k", 7)]) (g := gName 7) (tt := tYes) rfl sc_law.nd rfl rfl (sw_true rfl rfl rfl (by decide +kernel)) (pi_range1 (by rfl) T.n_range (pa_cons pe_int pa_nil)) (blkOk_by (N := N_law) (sc := defScope s_law) (by decide +kernel)) (fun _ _ _ _ _ => pg_name (i := 7) sc_law.nd rfl (Or.inl rfl)) (fun _ _ _ _ _ => pts_nil) (fun _ _ _ _ _ => (pe_call G_law_number (hr.mono (by omega)) (by rfl) T.m_law_number T.F_law_number.kp T.b_law_number .nil pass0 (pa_cons (pv 1) pa_nil))))
      (pss_cons (ps_set (i := 14) sc_law.nd rfl (Or.inl rfl) (pe_call G_law_done (hr.mono (by omega)) (by rfl) T.m_law_done T.F_law_done.kp T.b_law_done .nil pass0 (pa_cons (pe_call G_stub_cells (hr.mono (by omega)) (by rfl) T.m_stub_cells T.F_stub_cells.kp T.b_stub_cells .nil pass0 (pa_cons (pv 15) pa_nil)) (pa_cons (pv 5) (pa_cons (pv 6) (pa_cons (pe_tup (pa_cons (pv 15) (pa_cons (pv 16) pa_nil))) pa_nil))))))
      (pss_one (ps_if (pt_not (pt_val (pe_call G_law_same (hr.mono (by omega)) (by rfl) T.m_law_same T.F_law_same.kp T.b_law_same .nil pass0 (pa_cons (pv 14) (pa_cons (pe_tup (pa_cons (pe_op op_cat (pe_slice sl_list (pv 6) po_none (po_some pe_int)) (pe_lst (pa_cons (pv 16) pa_nil))) (pa_cons (pv 16) (pa_cons pe_str pa_nil)))) pa_nil))))) (pss_one (ps_ret pe_bl)) pss_nil))))))
      (pss_one (ps_ret pe_bl)))))), ?_⟩
    refine ⟨.ref a, rfl, a, ns, rfl, hS, hlen, fun H0 b l s0 hb0 _ B0 => ?_⟩
    refine ⟨.ref b, rfl, b, l, rfl, B0, fun H1 t zs s1 B1 ht0 nt _ et lz hz => ?_⟩
    have TT1 : Tls H1 b t zs := ⟨et, nt, by omega, by omega⟩
    refine ⟨20, rfl, by decide, by decide, for_range (lo := 0) (n := 20) (fun i σ G => Outer b l a t zs σ G) ⟨_, _, _, _, _, _, _, _, _, _, _, _, _, _, rfl, B1, TT1⟩ ?_ ?_⟩
    · rintro i σ G hi ⟨y3, y4, y5, y6, y7, y8, y9, y10, y11, y12, y13, y14, y15, y16, rfl, B, TT⟩
      refine ⟨fun σ G => ∃ (p : Addr) (xs : List V), σ = [some (.ref a), some (.ref b), some (.ref t), some (.int (0 + (i : Int))), some (.ref p), y5, y6, y7, y8, y9, y10, y11, y12, y13, y14, y15, y16] ∧ Bag G b l ∧ Tls G b t zs ∧ G p = some (.tup xs) ∧ p ≠ b ∧ CRow zs xs, ⟨_, rfl, _, _, rfl, rfl, _, rfl, ite2 (fun c4 => ?_) (fun c4 => ?_)⟩, ?_⟩
      · refine ⟨.ref b, rfl, .ref t, rfl, b, l, t, zs, rfl, B, TT, fun G1 p xs s B1 ep np hx => ?_⟩
        exact ⟨p, xs, rfl, B1, TT.stp s, ep, np, hx⟩
      · refine ⟨.ref b, rfl, .ref t, rfl, b, l, t, zs, rfl, B, TT, fun G1 p xs s B1 ep np hx => ?_⟩
        exact ⟨p, xs, rfl, B1, TT.stp s, ep, np, hx⟩
      · rintro σ G ⟨p, xs, rfl, B, TT, ep, np, hx⟩
        obtain ⟨u, r, rfl, lr⟩ := hx.any.short
        have fl := hx.any.flat
        refine ⟨.ref p, rfl, p, _, 0, _, rfl, rfl, SqT.of ep, atI_nat (j := 0) rfl, rfl, _, rfl, ite2 (fun cr => ?_) (fun cr => ?_)⟩
        · exact ⟨_, _, _, _, _, _, _, _, _, _, _, _, _, _, rfl, B, TT⟩
        have nroom : hd0 (V.str u :: r) ≠ .str "room" := fun z => cr (decide_eq_true z)
        -- place
        refine ⟨.ref b, rfl, .ref b, rfl, b, l, 65536, rfl, B, by decide, by decide, fun G1 d1 s1 B1 g0 g1 => ⟨(by show 4 ≤ sizeLine; decide), fun q1 h1 => ?_⟩⟩
        refine ⟨b, l, .ref q1, fun v => ∃ i, v = .int i ∧ Rg i, rfl, B1.new h1, .lst (B1.ne h1) (SqL.of upd_same) (by show 0 < 4; decide) (by show 4 ≤ 100000; decide) (memc ⟨_, rfl, by decide, by decide⟩ (memc ⟨_, rfl, by decide, by decide⟩ (memc ⟨_, rfl, by decide, by decide⟩ (mem1 ⟨_, rfl, g0, by omega⟩)))), fun G2 v s2 B2 hv => ?_⟩
        obtain ⟨pl, rfl, hpl⟩ := hv
        have u2 : Stp b G G2 := (s1.trans (Stp.new h1)).trans s2
        clear s1 s2 h1 B1 g0 g1
        -- registers
        refine ⟨4, rfl, by decide, by decide, fun D hD => ?_⟩
        have nD := B2.ne hD
        have lD := B2.nel hD
        refine lc_it walk_range (fun i H' => Bag H' b l ∧ Stp b G2 H' ∧ ∃ cs : List Int, H' D = some (.lst (cs.map V.int)) ∧ cs.length = i ∧ ∀ y ∈ cs, Rg y) ⟨B2.new hD, Stp.new hD, [], upd_same, rfl, mem0⟩ (fun _ _ _ _ => True.intro) ?_ ?_
        · rintro j x G3 G4 hj ⟨B3, s3, cs, e3, lc, hcs⟩ ⟨rfl, rfl⟩
          refine ⟨rfl, .ref b, rfl, .ref b, rfl, b, l, rfl, B3, fun G5 n s5 B5 n0 n1 => ⟨(by show 3 ≤ sizeLine; decide), fun q hq => ?_⟩⟩
          refine ⟨b, l, .ref q, fun v => ∃ i, v = .int i ∧ Rg i, rfl, B5.new hq, .lst (B5.ne hq) (SqL.of upd_same) (by show 0 < 3; decide) (by show 3 ≤ 100000; decide) (memc ⟨_, rfl, by decide, by decide⟩ (memc ⟨_, rfl, by decide, by decide⟩ (mem1 ⟨_, rfl, n0, n1⟩))), fun G6 v s6 B6 hv => ?_⟩
          obtain ⟨y, rfl, hy⟩ := hv
          have s56 := (s5.trans (Stp.new hq)).trans s6
          refine ⟨_, s56 _ _ nD e3, ?_, B6.put nD lD, (s3.trans s56).putnew hD, cs ++ [y], ?_, ?_, mema hcs (mem1 hy)⟩
          · rw [List.length_map, lc]
            exact Nat.lt_of_lt_of_le hj (by decide)
          · rw [upd_same]
            simp
          · simp [lc]
        rintro G3 ⟨B3, s3, own, e3, l4, hown⟩
        have u3 := u2.trans s3
        clear s3 lD hD B2
        replace TT := TT.stp u3
        replace ep := u3 _ _ np ep
        clear u2 u3
        -- numbers
        refine ⟨.ref p, rfl, 1, rfl, p, _, rfl, SqT.of ep, ?_, fun pc hpc => ?_⟩
        · rintro ⟨z, _⟩
          rw [show HT.sIx (V.str u :: r).length 0 (some 1) = min 1 (V.str u :: r).length from HT.sIx_nat _ 0 1, List.length_cons] at z
          omega
        rw [show cutV (V.str u :: r) (some 1) none = r from (cut_from4 1)]
        have s4 : Same G3 (upd G3 pc (.tup r)) := Same.new hpc
        have ec : (upd G3 pc (.tup r)) pc = some (.tup r) := upd_same
        generalize upd G3 pc (.tup r) = G4 at s4 ec ⊢
        refine ⟨pc, rfl, ⟨_, SqT.of ec⟩, fun D' hD => ?_⟩
        refine lc_it (walk_tup (K := K) (xs := r)) (fun i H' => Same G4 H' ∧ H' D' = some (.lst (((r.take i).filter fun x => inV x regs).map fun x => V.int (regN x)))) ⟨Same.new hD, upd_same⟩ (fun i H' _ q => SqT.of (q.1 _ _ ec)) ?_ ?_
        · rintro i' v K1 K2 hi' ⟨t1, e1⟩ ⟨rfl, hv⟩
          have fv := fl v (List.mem_cons_of_mem _ (List.mem_of_getElem? hv))
          have tk : r.take (i' + 1) = r.take i' ++ [v] := by rw [List.take_add_one, hv]; rfl
          refine ⟨rfl, v, rfl, (by show 3 ≤ sizeLine; decide), fun p3 h3 => ⟨p3, regs, rfl, .inl (SqL.of upd_same), fv, rfl, _, rfl, ?_⟩⟩
          show if inV v regs = true then _ else _
          have t3 := t1.trans (Same.new (o := .lst [V.str "r0", V.str "r1", V.str "r2"]) h3)
          have e3 := Same.new (o := .lst [V.str "r0", V.str "r1", V.str "r2"]) h3 _ _ e1
          cases hq' : inV v regs with
          | false =>
            refine iteF ⟨t3, e3.trans ?_⟩
            rw [tk, List.filter_append]
            simp [hq']
          | true =>
            obtain ⟨z, c, rfl, d1, d2, d3, d4⟩ := reg_dig (reg_mem hq' fv)
            refine iteT ⟨.str z, rfl, z, 1, c, rfl, rfl, d1, d2, _, _, rfl, d3, d4, _, e3, ?_, Same.put t3 hD, ?_⟩
            · rw [List.length_map]
              have q1 := List.length_filter_le (fun x => inV x regs) (r.take i')
              rw [List.length_take] at q1
              exact Nat.lt_of_le_of_lt (show _ ≤ 3 by omega) (by decide)
            · rw [upd_same, tk, List.filter_append, List.map_append]
              simp [hq']
        rintro K1 ⟨t1, e1⟩
        rw [List.take_length] at e1
        refine ⟨(by show 2 ≤ sizeLine; decide), fun q2 hq2 => ?_⟩
        have s2' := Same.new (o := .lst [V.int 0, V.int 0]) hq2
        refine ⟨D', q2, _, _, rfl, rfl, s2' _ _ e1, upd_same, ?_, fun c hc' => ?_⟩
        · rw [List.length_map]
          have q1 := List.length_filter_le (fun x => inV x regs) r
          exact Nat.le_trans (show _ ≤ 5 by show _ + 2 ≤ 5; omega) (by decide)
        have tt : Same G3 (upd (upd K1 q2 (.lst [V.int 0, V.int 0])) c (.lst ((r.filter fun x => inV x regs).map (fun x => V.int (regN x)) ++ [V.int 0, V.int 0]))) := ((s4.trans t1).trans s2').trans (Same.new hc')
        have eN : (upd (upd K1 q2 (.lst [V.int 0, V.int 0])) c (.lst ((r.filter fun x => inV x regs).map (fun x => V.int (regN x)) ++ [V.int 0, V.int 0]))) c = some (.lst ((regL r).map V.int)) := by
          rw [upd_same]
          unfold regL
          rw [List.map_append, List.map_map]
          rfl
        generalize upd (upd K1 q2 (.lst [V.int 0, V.int 0])) c (.lst ((r.filter fun x => inV x regs).map (fun x => V.int (regN x)) ++ [V.int 0, V.int 0])) = G5 at tt eN ⊢
        clear s2' e1 t1 ec hD hpc hc' hq2 s4
        obtain ⟨g0, g1⟩ := regL_at r
        have B5 := B3.same tt
        have TT5 := TT.stp (Same.stp tt)
        have ep5 := tt _ _ ep
        have eo5 := tt _ _ e3
        have b0 : 0 ≤ (regL r).getD 1 0 ∧ (regL r).getD 1 0 < own.length := by
          have q := regL_b (r := r)
          omega
        obtain ⟨gB, _⟩ := atI_int2 (cs := own) b0.1 b0.2
        -- held
        have wown : ∀ y ∈ own, Wd y := fun y m => by
          obtain ⟨q1, q2⟩ := hown y m
          exact ⟨by omega, q2⟩
        refine ⟨fun σ G' => ∃ (hq : Addr) (h1 h2 : Int) (y7 y9 : Option V), σ = [some (.ref a), some (.ref b), some (.ref t), some (.int (0 + (i : Int))), some (.ref p), some (.int pl), some (.ref D), y7, some (.ref c), y9, some (.ref hq), y11, y12, y13, y14, y15, y16] ∧ Bag G' b l ∧ Stp b G5 G' ∧ hq ≠ b ∧ G' hq = some (.tup [.int h1, .int h2]) ∧ Rg h2 ∧ ∀ r1 r2 d, ((V.str u :: r) = [.str "load", r1, r2, .int d] ∨ (V.str u :: r) = [.str "store", r1, r2, .int d]) → h1 = (gI own (regN r2) + d) % 65536, ?_, ?_⟩
        · refine ⟨.ref D, rfl, .ref c, rfl, c, _, 1, _, rfl, rfl, SqL.of eN, g1, D, _, _, _, rfl, rfl, SqL.of eo5, gB, ?_⟩
          refine ⟨.ref p, rfl, p, _, 0, _, rfl, rfl, SqT.of ep5, atI_nat (j := 0) rfl, (by show 2 ≤ sizeLine; decide), fun m hm => ⟨m, _, rfl, .inl (SqL.of upd_same), rfl, rfl, _, rfl, ?_⟩⟩
          show if inV (.str u) [.str "load", .str "store"] = true then _ else _
          have sm : Same G5 (upd G5 m (.lst [.str "load", .str "store"])) := Same.new hm
          have Bm := B5.same sm
          have epm := sm _ _ ep5
          generalize upd G5 m (.lst [.str "load", .str "store"]) = Gm at sm Bm epm ⊢
          cases e : inV (.str u) [.str "load", .str "store"] with
          | true =>
            obtain ⟨r1, r2, d, rfl, hr1, hr2, d0, d1⟩ := hx.ls e
            have eb : (regL [r1, r2, .int d]).getD 1 0 = regN r2 := by rw [regL_c hr1, regL_c hr2]; rfl
            refine iteT ⟨.ref p, rfl, p, _, 3, _, rfl, rfl, SqT.of epm, atI_nat (j := 3) rfl, _, _, rfl, rfl, .inl ⟨_, rfl, _, _, rfl, rfl, (by show (0 : Int) < 65536; decide), .ref b, rfl, b, l, rfl, Bm, fun G6 n s6 B6 n0 n1 => ⟨(by show 2 ≤ sizeLine; decide), fun hq hh => ?_⟩⟩⟩
            refine ⟨hq, _, n, _, _, rfl, B6.new hh, ((Same.stp sm).trans s6).trans (Stp.new hh), B6.ne hh, upd_same, ⟨n0, n1⟩, fun a1 a2 a3 hd => ?_⟩
            have ed : a2 = r2 ∧ a3 = d := by
              rcases hd with hd | hd <;> cases hd <;> exact ⟨rfl, rfl⟩
            rw [ed.1, ed.2]
            show (own.getD ((regL [r1, r2, .int d]).getD 1 0).toNat 0 + d) % 65536 = _
            rw [eb]
            rfl
          | false =>
            refine iteF ⟨_, _, rfl, rfl, .inl ⟨_, rfl, _, _, rfl, rfl, (by show (0 : Int) < 65536; decide), .ref b, rfl, b, l, rfl, Bm, fun G6 n s6 B6 n0 n1 => ⟨(by show 2 ≤ sizeLine; decide), fun hq hh => ?_⟩⟩⟩
            refine ⟨hq, _, n, _, _, rfl, B6.new hh, ((Same.stp sm).trans s6).trans (Stp.new hh), B6.ne hh, upd_same, ⟨n0, n1⟩, fun a1 a2 a3 hd => ?_⟩
            exfalso
            rcases hd with hd | hd <;> cases hd <;> exact absurd e (by decide +kernel)
        · rintro σ G6 ⟨hq, h1, h2, y7, y9, rfl, B6, s6, nhq, eh6, rh2, hh⟩
          have TT6 := TT5.stp s6
          have ep6 := s6 _ _ np ep5
          have eo6 := s6 _ _ nD eo5
          -- both forms
          refine ⟨(by show 2 ≤ sizeLine; decide), fun f hf => ?_⟩
          have nf := B6.ne hf
          have s7 : Same G6 (upd G6 f (.lst [V.bl false, V.bl true])) := Same.new hf
          have ef : (upd G6 f (.lst [V.bl false, V.bl true])) f = some (.lst [V.bl false, V.bl true]) := upd_same
          generalize upd G6 f (.lst [V.bl false, V.bl true]) = G7 at s7 ef ⊢
          refine ⟨f, rfl, ⟨_, SqL.of ef⟩, for_list (K := K) (a := f) (xs := [V.bl false, V.bl true]) (fun _ σ G' => ∃ (z11 z12 z13 z14 z15 z16 : Option V), σ = [some (.ref a), some (.ref b), some (.ref t), some (.int (0 + (i : Int))), some (.ref p), some (.int pl), some (.ref D), y7, some (.ref c), y9, some (.ref hq), z11, z12, z13, z14, z15, z16] ∧ Stp b G7 G' ∧ Bag G' b l)
            ⟨_, _, _, _, _, _, rfl, Stp.refl, B6.same s7⟩ (fun _ σ G' _ ⟨_, _, _, _, _, _, _, s', _⟩ => SqL.of (s' _ _ nf ef)) ?_ ?_⟩
          · rintro j y σ G' hy ⟨z11, z12, z13, z14, z15, z16, rfl, sG, BG⟩
            obtain ⟨far, rfl⟩ : ∃ far, y = .bl far := by
              match j, hy with
              | 0, h => exact ⟨_, (Option.some.inj h).symm⟩
              | 1, h => exact ⟨_, (Option.some.inj h).symm⟩
            have epG := sG _ _ np (s7 _ _ ep6)
            have eoG := sG _ _ nD (s7 _ _ eo6)
            have ehG := sG _ _ nhq (s7 _ _ eh6)
            -- the goal
            refine ⟨.int pl, rfl, .ref b, rfl, b, l, 256, rfl, BG, by decide, by decide, fun K1 d t1 B1 d0 d1 => ?_⟩
            refine ⟨_, _, rfl, rfl, _, _, rfl, rfl, .inl ⟨_, rfl, _, _, rfl, rfl, (by show (0 : Int) < 65536; decide), ?_⟩⟩
            have r0 : Rg ((pl + d + 65408) % 65536) := ⟨Int.emod_nonneg _ (by decide), by omega⟩
            have n0 : ∃ n : Int, (-128 ≤ n ∧ n ≤ 127) ∧ (pl + d + 65408) % 65536 = (pl + n + 65536) % 65536 := ⟨d - 128, by omega, by rw [show pl + (d - 128) + 65536 = pl + d + 65408 by omega]⟩
            have t1G := sG.trans t1
            refine ⟨fun σ G'' => ∃ (go : Int), σ = [some (.ref a), some (.ref b), some (.ref t), some (.int (0 + (i : Int))), some (.ref p), some (.int pl), some (.ref D), y7, some (.ref c), y9, some (.ref hq), some (.bl far), some (.int go), z13, z14, z15, z16] ∧ Bag G'' b l ∧ Stp b G7 G'' ∧ Rg go ∧ (far = false → hd0 (V.str u :: r) ∈ [V.str "name", .str "jump", .str "ifzero", .str "call"] → ∃ n : Int, (-128 ≤ n ∧ n ≤ 127) ∧ go = (pl + n + 65536) % 65536), ?_, ?_⟩
            · have drawn : ∀ (K2 : Hp), Stp b G7 K2 → Bag K2 b l → (far = false → hd0 (V.str u :: r) ∈ [V.str "name", .str "jump", .str "ifzero", .str "call"] → False) → ∀ (q : Addr) (K3 : Hp) (n : Int), Stp b K2 K3 → Bag K3 b l → Rg n → K3 q = none → ∀ (Q : V → Hp → Prop), (∀ (K4 : Hp) (go : Int), Stp b G7 K4 → Bag K4 b l → Rg go → Q (.int go) K4) → sp_law_of K [.ref b, .ref q] (upd K3 q (.lst [.int ((pl + d + 65408) % 65536), .int n, .int 65535, .int 65408, .int 0])) Q E := by
                intro K2 u2 B2 _ q K3 n u3 B3 rn hq3 Q' kq
                refine ⟨b, l, .ref q, fun v => ∃ i, v = .int i ∧ Rg i, rfl, B3.new hq3, .lst (B3.ne hq3) (SqL.of upd_same) (by show 0 < 5; decide) (by show 5 ≤ 100000; decide) (memc ⟨_, rfl, r0⟩ (memc ⟨_, rfl, rn⟩ (memc ⟨_, rfl, by decide, by decide⟩ (memc ⟨_, rfl, by decide, by decide⟩ (mem1 ⟨_, rfl, by decide, by decide⟩))))), fun K4 v u4 B4 hv => ?_⟩
                obtain ⟨go, rfl, hgo⟩ := hv
                exact kq K4 go ((u2.trans u3).trans ((Stp.new hq3).trans u4)) B4 hgo
              cases far with
              | true =>
                refine ⟨.bl true, rfl, true, rfl, iteT ?_⟩
                refine ⟨.ref b, rfl, .int ((pl + d + 65408) % 65536), rfl, .ref b, rfl, b, l, rfl, B1, fun K3 n t3 B3 m0 m1 => ⟨(by show 5 ≤ sizeLine; decide), fun q hq3 => ?_⟩⟩
                exact drawn K1 t1G B1 (fun z => nomatch z) q K3 n t3 B3 ⟨m0, m1⟩ hq3 _ fun K4 go u4 B4 rg => ⟨go, rfl, B4, u4, rg, fun z => nomatch z⟩
              | false =>
                refine ⟨.bl false, rfl, false, rfl, iteF ?_⟩
                have ep1 := t1 _ _ np epG
                refine ⟨.ref p, rfl, p, _, 0, _, rfl, rfl, SqT.of ep1, atI_nat (j := 0) rfl, (by show 4 ≤ sizeLine; decide), fun m hm => ⟨m, _, rfl, .inl (SqL.of upd_same), rfl, rfl, _, rfl, ?_⟩⟩
                have um := t1G.trans (Stp.new (o := .lst [V.str "name", .str "jump", .str "ifzero", .str "call"]) hm)
                have Bm := B1.new (o := .lst [V.str "name", .str "jump", .str "ifzero", .str "call"]) hm
                generalize upd K1 m (.lst [V.str "name", .str "jump", .str "ifzero", .str "call"]) = Km at um Bm ⊢
                show if (!inV (.str u) [V.str "name", .str "jump", .str "ifzero", .str "call"]) = true then _ else _
                cases e : inV (.str u) [V.str "name", .str "jump", .str "ifzero", .str "call"] with
                | true => exact iteF ⟨((pl + d + 65408) % 65536), rfl, Bm, um, r0, fun _ _ => n0⟩
                | false =>
                  refine iteT ?_
                  refine ⟨.ref b, rfl, .int ((pl + d + 65408) % 65536), rfl, .ref b, rfl, b, l, rfl, Bm, fun K3 n t3 B3 m0 m1 => ⟨(by show 5 ≤ sizeLine; decide), fun q hq3 => ?_⟩⟩
                  have no : hd0 (V.str u :: r) ∈ [V.str "name", .str "jump", .str "ifzero", .str "call"] → False := fun m => by
                    have z := of_in (u := u) m
                    rw [e] at z
                    cases z
                  exact drawn Km um Bm (fun _ => no) q K3 n t3 B3 ⟨m0, m1⟩ hq3 _ fun K4 go u4 B4 rg => ⟨go, rfl, B4, u4, rg, fun _ m => (no m).elim⟩
            · rintro σ G8 ⟨go, rfl, B8, s8, rgo, hnear⟩
              clear d0 d1 n0 r0 t1 B1 t1G
              have ep8 := s8 _ _ np (s7 _ _ ep6)
              have eo8 := s8 _ _ nD (s7 _ _ eo6)
              have eh8 := s8 _ _ nhq (s7 _ _ eh6)
              obtain ⟨cs, hcs⟩ := Cel.all pl go far hx.any
              refine ⟨.ref p, rfl, .int pl, rfl, .int go, rfl, .bl far, rfl, p, _, zs, pl, go, far, cs, rfl, SqT.of ep8, hz, hcs, fun G9 pc s9 hpc ec => ?_⟩
              have B9 := B8.same s9
              have u9 := s8.trans (Same.stp s9)
              refine ⟨fun σ G'' => σ = [some (.ref a), some (.ref b), some (.ref t), some (.int (0 + (i : Int))), some (.ref p), some (.int pl), some (.ref D), y7, some (.ref c), y9, some (.ref hq), some (.bl far), some (.int go), some (.ref pc), z14, z15, z16] ∧ Same G9 G'' ∧ (hd0 (V.str u :: r) = .str "jump" ∨ hd0 (V.str u :: r) = .str "ifzero" → (cs.length : Int) ≤ (go - pl + 65536) % 65536), ?_, ?_⟩
              · refine ⟨.int go, rfl, .int pl, rfl, _, _, rfl, rfl, _, _, rfl, rfl, .inl ⟨_, rfl, _, _, rfl, rfl, (by show (0 : Int) < 65536; decide), .ref pc, rfl, .ref pc, cs.length, rfl, .inl ⟨_, SqL.of ec, by rw [List.length_map]⟩, _, _, rfl, rfl, _, rfl, ite2 (fun c1 => ?_) (fun c1 => ?_)⟩⟩
                · refine ⟨.ref p, rfl, p, _, 0, _, rfl, rfl, SqT.of (s9 _ _ ep8), atI_nat (j := 0) rfl, (by show 2 ≤ sizeLine; decide), fun m hm => ⟨m, _, rfl, .inl (SqL.of upd_same), rfl, rfl, _, rfl, ?_⟩⟩
                  show if inV (.str u) [V.str "jump", .str "ifzero"] = true then _ else _
                  cases e : inV (.str u) [V.str "jump", .str "ifzero"] with
                  | true => exact iteT ⟨_, _, _, _, _, _, rfl, u9.trans (Stp.new hm), B9.new hm⟩
                  | false =>
                    refine iteF ⟨rfl, Same.new hm, fun z => ?_⟩
                    have z' : inV (.str u) [V.str "jump", .str "ifzero"] = true := of_in (by
                      rcases z with z | z
                      · rw [show V.str u = .str "jump" from z]; simp
                      · rw [show V.str u = .str "ifzero" from z]; simp)
                    rw [e] at z'
                    cases z'
                · have c2 : ¬ ((go - pl + 65536) % 65536 < (cs.length : Int)) := fun z => c1 (decide_eq_true z)
                  exact ⟨rfl, Same.refl _, fun _ => by omega⟩
              · rintro σ Ga ⟨rfl, sa, hout⟩
                have ua := u9.trans (Same.stp sa)
                have Ba := B9.same sa
                have epa := sa _ _ (s9 _ _ ep8)
                have eoa := sa _ _ (s9 _ _ eo8)
                have eha := sa _ _ (s9 _ _ eh8)
                have eca := sa _ _ ec
                obtain ⟨S, hpath, hdue⟩ := path_row (far := far) (hd := (h1, h2)) (own := own) hpl rgo l4 hx nroom hx.putn hcs hh hnear hout
                refine ⟨.ref pc, rfl, .int pl, rfl, .ref D, rfl, .ref hq, rfl, pc, D, hq, cs, own, pl, (h1, h2), S, rfl, eca, eoa, SqT.of eha, hcs.len, l4, wown, rh2.wd, hpath, fun Gb p1 q1 sb hp1 ep1 ow1 lo1 wo1 => ?_⟩
                refine ⟨p1, q1, S, rfl, ep1, ow1, lo1, fun Gc p2 q2 sc ep2 ow2 => ?_⟩
                have sac := sb.trans sc
                refine ⟨.ref p2, rfl, .ref p, rfl, .int pl, rfl, .int go, rfl, .ref D, rfl, .ref hq, rfl, .ref pc, rfl, .ref pc, cs.length, rfl, .inl ⟨_, SqL.of (sac _ _ eca), by rw [List.length_map]⟩, ?_⟩
                refine ⟨p, D, hq, V.str u :: r, zs, pl, go, cs.length, own, (h1, h2), w3 S, rfl, SqT.of (sac _ _ epa), hz, hx, sac _ _ eoa, SqT.of (sac _ _ eha), l4, wown, rh2.wd, rgo.wd, fun n e1 e2 => Rg.wd (hx.putn n e1 e2), hdue, fun Gd p3 q3 sd hp3 ep3 ow3 => ?_⟩
                refine ⟨.ref p2, .ref p3, rfl, MS.eqd (s := w3 S) (by show (S.own.take 3).length ≤ 4; rw [List.length_take]; omega) (sd _ _ ep2) ep3 (ow2.same sd) ow3, fun Ge se => ⟨true, rfl, iteF ?_⟩⟩
                have sae := (sac.trans sd).trans se
                exact ⟨_, _, _, _, _, _, rfl, ua.trans (Same.stp sae), Ba.same sae⟩
          · rintro σ G' ⟨z11, z12, z13, z14, z15, z16, rfl, sG, BG⟩
            exact ⟨_, _, _, _, _, _, _, _, _, _, _, _, _, _, rfl, BG, (TT6.stp (Same.stp s7)).stp sG⟩
    · rintro σ G ⟨y3, y4, y5, y6, y7, y8, y9, y10, y11, y12, y13, y14, y15, y16, rfl, B, TT⟩
      refine ⟨3, rfl, by decide, by decide, for_range (lo := 0) (n := 3) (fun i σ G => Outer b l a t zs σ G) ⟨_, _, _, _, _, _, _, _, _, _, _, _, _, _, rfl, B, TT⟩ ?_ ?_⟩
      · clear y3 y4 y5 y6 y7 y8 y9 y10 y11 y12 y13 y14 y15 y16 B TT
        rintro i σ G hi ⟨y3, y4, y5, y6, y7, y8, y9, y10, y11, y12, y13, y14, y15, y16, rfl, B, TT⟩
        refine ⟨.ref b, rfl, b, l, 65536, rfl, B, by decide, by decide, fun G1 pl s1 B1 d0 d1 => ?_⟩
        refine ⟨.ref b, rfl, b, l, rfl, B1, fun G2 g s2 B2 g0 g1 => ?_⟩
        refine ⟨.ref b, rfl, b, l, rfl, B2, fun G3 x s3 B3 x0 x1 => ?_⟩
        refine ⟨_, _, _, rfl, ?_⟩
        have u3 := (s1.trans s2).trans s3
        refine ⟨4, rfl, by decide, by decide, fun D hD => ?_⟩
        have nD := B3.ne hD
        have lD := B3.nel hD
        refine lc_it walk_range (fun i H' => Bag H' b l ∧ Stp b G3 H' ∧ ∃ cs : List Int, H' D = some (.lst (cs.map V.int)) ∧ cs.length = i ∧ ∀ y ∈ cs, Rg y) ⟨B3.new hD, Stp.new hD, [], upd_same, rfl, mem0⟩ (fun _ _ _ _ => True.intro) ?_ ?_
        · rintro j y K1 K2 hj ⟨B4, t3, cs, e3, lc, hcs⟩ ⟨rfl, rfl⟩
          refine ⟨rfl, .ref b, rfl, b, l, rfl, B4, fun G5 n s5 B5 n0 n1 => ?_⟩
          refine ⟨_, s5 _ _ nD e3, ?_, B5.put nD lD, (t3.trans s5).putnew hD, cs ++ [n], ?_, ?_, mema hcs (mem1 ⟨n0, n1⟩)⟩
          · rw [List.length_map, lc]
            exact Nat.lt_of_lt_of_le hj (by decide)
          · rw [upd_same]
            simp
          · simp [lc]
        rintro G4 ⟨B4, s4, own, e4, l4, hown⟩
        have u4 := u3.trans s4
        have wown : ∀ y ∈ own, Wd y := fun y m => (hown y m).wd
        refine ⟨.int g, rfl, g, rfl, fun G5 pc s5 hpc ec => ?_⟩
        refine ⟨.int pl, rfl, .ref D, rfl, .int g, rfl, .int x, rfl, (by show 2 ≤ sizeLine; decide), fun hq hh => ?_⟩
        have s6 : Same G5 (upd G5 hq (.tup [V.int g, V.int x])) := Same.new hh
        have eh : (upd G5 hq (.tup [V.int g, V.int x])) hq = some (.tup [V.int g, V.int x]) := upd_same
        generalize upd G5 hq (.tup [V.int g, V.int x]) = G6 at s6 eh ⊢
        have s46 := s5.trans s6
        have eo6 := s46 _ _ e4
        have ec6 := s6 _ _ ec
        have hp := path_stub (x := x) (own := own) (pl := pl) (g := g) ⟨d0, by omega⟩ ⟨g0, g1⟩ l4
        refine ⟨pc, D, hq, [dg 2 3 0 (pH g), dg 3 3 0 (pL g), dg 6 3 3 0, dg 12 3 0 0], own, pl, (g, x), _, rfl, ec6, eo6, SqT.of eh, Nat.le_of_ble_eq_true rfl, l4, wown, Rg.wd ⟨x0, x1⟩, hp, fun G7 p1 q1 s7 hp1 ep1 ow1 lo1 wo1 => ?_⟩
        have eo7 := s7 _ _ eo6
        refine ⟨.ref p1, rfl, .ref D, rfl, 3, rfl, D, _, rfl, SqL.of eo7, fun c1 h1 => ?_⟩
        rw [show cutV (own.map V.int) none (some 3) = (own.take 3).map V.int from cut_ints own 3]
        have s8 : Same G7 (upd G7 c1 (.lst ((own.take 3).map V.int))) := Same.new h1
        have e8 : (upd G7 c1 (.lst ((own.take 3).map V.int))) c1 = some (.lst ((own.take 3).map V.int)) := upd_same
        generalize upd G7 c1 (.lst ((own.take 3).map V.int)) = G8 at s8 e8 ⊢
        refine ⟨.int x, rfl, (by show 1 ≤ sizeLine; decide), fun c2 h2 => ?_⟩
        have s9 : Same G8 (upd G8 c2 (.lst [V.int x])) := Same.new h2
        have e9 : (upd G8 c2 (.lst [V.int x])) c2 = some (.lst [V.int x]) := upd_same
        generalize upd G8 c2 (.lst [V.int x]) = G9 at s9 e9 ⊢
        refine ⟨c1, c2, _, _, rfl, rfl, s9 _ _ e8, e9, Nat.le_trans (show _ ≤ 4 by rw [List.length_map, List.length_take]; show _ + 1 ≤ 4; omega) (by decide), fun c3 h3 => ?_⟩
        rw [show (own.take 3).map V.int ++ [V.int x] = (own.set 3 x).map V.int by rw [← four_set l4, List.map_append]; rfl]
        have sa : Same G9 (upd G9 c3 (.lst ((own.set 3 x).map V.int))) := Same.new h3
        have ea : (upd G9 c3 (.lst ((own.set 3 x).map V.int))) c3 = some (.lst ((own.set 3 x).map V.int)) := upd_same
        generalize upd G9 c3 (.lst ((own.set 3 x).map V.int)) = Ga at sa ea ⊢
        refine ⟨.int x, rfl, (by show 3 ≤ sizeLine; decide), fun t4 h4 => ?_⟩
        have sb : Same Ga (upd Ga t4 (.tup [V.ref c3, V.int x, V.str "go"])) := Same.new h4
        have eb : (upd Ga t4 (.tup [V.ref c3, V.int x, V.str "go"])) t4 = some (.tup [V.ref c3, V.int x, V.str "go"]) := upd_same
        generalize upd Ga t4 (.tup [V.ref c3, V.int x, V.str "go"]) = Gb at sb eb ⊢
        have s7b := ((s8.trans s9).trans sa).trans sb
        refine ⟨.ref p1, .ref t4, rfl, MS.eqd (s := ⟨own.set 3 x, none, x, "go"⟩) (by rw [List.length_set]; omega) (s7b _ _ ep1) eb (ow1.same s7b) (sb _ _ ea), fun Gc sc => ⟨true, rfl, iteF ?_⟩⟩
        have s4c := (s46.trans s7).trans (s7b.trans sc)
        exact ⟨_, _, _, _, _, _, _, _, _, _, _, _, _, _, rfl, B4.same s4c, TT.stp (u4.trans (Same.stp s4c))⟩
      · rintro σ G _
        exact k _
end

/-! ### what the top has written, the head -/
theorem all_mk {l : PySem.W.OpenLaw} {w : World} {K : PySem.W.Frag} {h : Heap} {mg : Str → Option Value} {fa : Addr} (X : K.In h) (G : h.Ns mainGlobals mg) (hfa : mg "law" = some (.ref fa))
    {f_is_number f_cell_of f_with_part f_high_half f_low_half f_unsigned f_row_cells f_stub_cells f_placed f_number f_first_number f_half_cells f_only_cell f_long_cells f_law_bag f_law_draw f_law_of f_law_same f_law_titles f_law_number f_law_r f_law_code_row f_law_last_row f_law_done f_law_due f_law_without_third f_law  q_REGISTERS q_CODES q_SHORT_CODES : Addr}
    {od_is_number an_is_number od_cell_of an_cell_of od_with_part an_with_part od_high_half an_high_half od_low_half an_low_half od_unsigned an_unsigned od_row_cells an_row_cells od_stub_cells an_stub_cells od_placed an_placed od_number an_number od_first_number an_first_number od_half_cells an_half_cells od_only_cell an_only_cell od_long_cells an_long_cells od_law_bag an_law_bag od_law_draw an_law_draw od_law_of an_law_of od_law_same an_law_same od_law_titles an_law_titles od_law_number an_law_number od_law_r an_law_r od_law_code_row an_law_code_row od_law_last_row an_law_last_row od_law_done an_law_done od_law_due an_law_due od_law_without_third an_law_without_third od_law an_law : Option Addr} {sl_is_number sl_cell_of sl_with_part sl_high_half sl_low_half sl_unsigned sl_row_cells sl_stub_cells sl_placed sl_number sl_first_number sl_half_cells sl_only_cell sl_long_cells sl_law_bag sl_law_draw sl_law_of sl_law_same sl_law_titles sl_law_number sl_law_r sl_law_code_row sl_law_last_row sl_law_done sl_law_due sl_law_without_third sl_law : Array (Option Value)} {oc_is_number kV_is_number dc_is_number pm_is_number cd_is_number ct_is_number oc_cell_of kV_cell_of dc_cell_of pm_cell_of cd_cell_of ct_cell_of oc_with_part kV_with_part dc_with_part pm_with_part cd_with_part ct_with_part oc_high_half kV_high_half dc_high_half pm_high_half cd_high_half ct_high_half oc_low_half kV_low_half dc_low_half pm_low_half cd_low_half ct_low_half oc_unsigned kV_unsigned dc_unsigned pm_unsigned cd_unsigned ct_unsigned oc_row_cells kV_row_cells dc_row_cells pm_row_cells cd_row_cells ct_row_cells oc_stub_cells kV_stub_cells dc_stub_cells pm_stub_cells cd_stub_cells ct_stub_cells oc_placed kV_placed dc_placed pm_placed cd_placed ct_placed oc_number kV_number dc_number pm_number cd_number ct_number oc_first_number kV_first_number dc_first_number pm_first_number cd_first_number ct_first_number oc_half_cells kV_half_cells dc_half_cells pm_half_cells cd_half_cells ct_half_cells oc_only_cell kV_only_cell dc_only_cell pm_only_cell cd_only_cell ct_only_cell oc_long_cells kV_long_cells dc_long_cells pm_long_cells cd_long_cells ct_long_cells oc_law_bag kV_law_bag dc_law_bag pm_law_bag cd_law_bag ct_law_bag oc_law_draw kV_law_draw dc_law_draw pm_law_draw cd_law_draw ct_law_draw oc_law_of kV_law_of dc_law_of pm_law_of cd_law_of ct_law_of oc_law_same kV_law_same dc_law_same pm_law_same cd_law_same ct_law_same oc_law_titles kV_law_titles dc_law_titles pm_law_titles cd_law_titles ct_law_titles oc_law_number kV_law_number dc_law_number pm_law_number cd_law_number ct_law_number oc_law_r kV_law_r dc_law_r pm_law_r cd_law_r ct_law_r oc_law_code_row kV_law_code_row dc_law_code_row pm_law_code_row cd_law_code_row ct_law_code_row oc_law_last_row kV_law_last_row dc_law_last_row pm_law_last_row cd_law_last_row ct_law_last_row oc_law_done kV_law_done dc_law_done pm_law_done cd_law_done ct_law_done oc_law_due kV_law_due dc_law_due pm_law_due cd_law_due ct_law_due oc_law_without_third kV_law_without_third dc_law_without_third pm_law_without_third cd_law_without_third ct_law_without_third oc_law kV_law dc_law pm_law cd_law ct_law : Value}
    (a_is_number : PySem.W.nsIn K mainGlobals "is_number" = some (some (.ref f_is_number))) (l_is_number : K.lookup f_is_number = some ⟨oc_is_number, od_is_number, .func (PySem.W.fnOf "is_number" "is_number" (defArgs s_is_number) (defBody s_is_number) (defScope s_is_number) .none kV_is_number dc_is_number pm_is_number an_is_number cd_is_number ct_is_number), sl_is_number⟩) (c_is_number : PySem.W.codeIn K cd_is_number "is_number" = true) (k_is_number : PySem.W.keepIn K (.ref f_is_number) = true)
    {t_cell_of : Addr} {td_cell_of : Option Addr} {ti_cell_of : Array Value} {tn_cell_of : Nat} {ts_cell_of : Array (Option Value)}
    (a_cell_of : PySem.W.nsIn K mainGlobals "cell_of" = some (some (.ref f_cell_of))) (l_cell_of : K.lookup f_cell_of = some ⟨oc_cell_of, od_cell_of, .func (PySem.W.fnOf "cell_of" "cell_of" (defArgs s_cell_of) (defBody s_cell_of) (defScope s_cell_of) (.ref t_cell_of) kV_cell_of dc_cell_of pm_cell_of an_cell_of cd_cell_of ct_cell_of), sl_cell_of⟩) (c_cell_of : PySem.W.codeIn K cd_cell_of "cell_of" = true) (k_cell_of : PySem.W.keepIn K (.ref f_cell_of) = true)
    (tl_cell_of : K.lookup t_cell_of = some ⟨.type "tuple", td_cell_of, .seq ti_cell_of tn_cell_of, ts_cell_of⟩) (tv_cell_of : Vals [.int 0, .int 0, .int 0] ti_cell_of.toList)
    (a_with_part : PySem.W.nsIn K mainGlobals "with_part" = some (some (.ref f_with_part))) (l_with_part : K.lookup f_with_part = some ⟨oc_with_part, od_with_part, .func (PySem.W.fnOf "with_part" "with_part" (defArgs s_with_part) (defBody s_with_part) (defScope s_with_part) .none kV_with_part dc_with_part pm_with_part an_with_part cd_with_part ct_with_part), sl_with_part⟩) (c_with_part : PySem.W.codeIn K cd_with_part "with_part" = true) (k_with_part : PySem.W.keepIn K (.ref f_with_part) = true)
    (a_high_half : PySem.W.nsIn K mainGlobals "high_half" = some (some (.ref f_high_half))) (l_high_half : K.lookup f_high_half = some ⟨oc_high_half, od_high_half, .func (PySem.W.fnOf "high_half" "high_half" (defArgs s_high_half) (defBody s_high_half) (defScope s_high_half) .none kV_high_half dc_high_half pm_high_half an_high_half cd_high_half ct_high_half), sl_high_half⟩) (c_high_half : PySem.W.codeIn K cd_high_half "high_half" = true) (k_high_half : PySem.W.keepIn K (.ref f_high_half) = true)
    (a_low_half : PySem.W.nsIn K mainGlobals "low_half" = some (some (.ref f_low_half))) (l_low_half : K.lookup f_low_half = some ⟨oc_low_half, od_low_half, .func (PySem.W.fnOf "low_half" "low_half" (defArgs s_low_half) (defBody s_low_half) (defScope s_low_half) .none kV_low_half dc_low_half pm_low_half an_low_half cd_low_half ct_low_half), sl_low_half⟩) (c_low_half : PySem.W.codeIn K cd_low_half "low_half" = true) (k_low_half : PySem.W.keepIn K (.ref f_low_half) = true)
    (a_unsigned : PySem.W.nsIn K mainGlobals "unsigned" = some (some (.ref f_unsigned))) (l_unsigned : K.lookup f_unsigned = some ⟨oc_unsigned, od_unsigned, .func (PySem.W.fnOf "unsigned" "unsigned" (defArgs s_unsigned) (defBody s_unsigned) (defScope s_unsigned) .none kV_unsigned dc_unsigned pm_unsigned an_unsigned cd_unsigned ct_unsigned), sl_unsigned⟩) (c_unsigned : PySem.W.codeIn K cd_unsigned "unsigned" = true) (k_unsigned : PySem.W.keepIn K (.ref f_unsigned) = true)
    {t_row_cells : Addr} {td_row_cells : Option Addr} {ti_row_cells : Array Value} {tn_row_cells : Nat} {ts_row_cells : Array (Option Value)}
    (a_row_cells : PySem.W.nsIn K mainGlobals "row_cells" = some (some (.ref f_row_cells))) (l_row_cells : K.lookup f_row_cells = some ⟨oc_row_cells, od_row_cells, .func (PySem.W.fnOf "row_cells" "row_cells" (defArgs s_row_cells) (defBody s_row_cells) (defScope s_row_cells) (.ref t_row_cells) kV_row_cells dc_row_cells pm_row_cells an_row_cells cd_row_cells ct_row_cells), sl_row_cells⟩) (c_row_cells : PySem.W.codeIn K cd_row_cells "row_cells" = true) (k_row_cells : PySem.W.keepIn K (.ref f_row_cells) = true)
    (tl_row_cells : K.lookup t_row_cells = some ⟨.type "tuple", td_row_cells, .seq ti_row_cells tn_row_cells, ts_row_cells⟩) (tv_row_cells : Vals [.bl false] ti_row_cells.toList)
    (a_stub_cells : PySem.W.nsIn K mainGlobals "stub_cells" = some (some (.ref f_stub_cells))) (l_stub_cells : K.lookup f_stub_cells = some ⟨oc_stub_cells, od_stub_cells, .func (PySem.W.fnOf "stub_cells" "stub_cells" (defArgs s_stub_cells) (defBody s_stub_cells) (defScope s_stub_cells) .none kV_stub_cells dc_stub_cells pm_stub_cells an_stub_cells cd_stub_cells ct_stub_cells), sl_stub_cells⟩) (c_stub_cells : PySem.W.codeIn K cd_stub_cells "stub_cells" = true) (k_stub_cells : PySem.W.keepIn K (.ref f_stub_cells) = true)
    (a_placed : PySem.W.nsIn K mainGlobals "placed" = some (some (.ref f_placed))) (l_placed : K.lookup f_placed = some ⟨oc_placed, od_placed, .func (PySem.W.fnOf "placed" "placed" (defArgs s_placed) (defBody s_placed) (defScope s_placed) .none kV_placed dc_placed pm_placed an_placed cd_placed ct_placed), sl_placed⟩) (c_placed : PySem.W.codeIn K cd_placed "placed" = true) (k_placed : PySem.W.keepIn K (.ref f_placed) = true)
    (a_number : PySem.W.nsIn K mainGlobals "_number" = some (some (.ref f_number))) (l_number : K.lookup f_number = some ⟨oc_number, od_number, .func (PySem.W.fnOf "_number" "_number" (defArgs s_number) (defBody s_number) (defScope s_number) .none kV_number dc_number pm_number an_number cd_number ct_number), sl_number⟩) (c_number : PySem.W.codeIn K cd_number "_number" = true) (k_number : PySem.W.keepIn K (.ref f_number) = true)
    (a_first_number : PySem.W.nsIn K mainGlobals "_first_number" = some (some (.ref f_first_number))) (l_first_number : K.lookup f_first_number = some ⟨oc_first_number, od_first_number, .func (PySem.W.fnOf "_first_number" "_first_number" (defArgs s_first_number) (defBody s_first_number) (defScope s_first_number) .none kV_first_number dc_first_number pm_first_number an_first_number cd_first_number ct_first_number), sl_first_number⟩) (c_first_number : PySem.W.codeIn K cd_first_number "_first_number" = true) (k_first_number : PySem.W.keepIn K (.ref f_first_number) = true)
    (a_half_cells : PySem.W.nsIn K mainGlobals "_half_cells" = some (some (.ref f_half_cells))) (l_half_cells : K.lookup f_half_cells = some ⟨oc_half_cells, od_half_cells, .func (PySem.W.fnOf "_half_cells" "_half_cells" (defArgs s_half_cells) (defBody s_half_cells) (defScope s_half_cells) .none kV_half_cells dc_half_cells pm_half_cells an_half_cells cd_half_cells ct_half_cells), sl_half_cells⟩) (c_half_cells : PySem.W.codeIn K cd_half_cells "_half_cells" = true) (k_half_cells : PySem.W.keepIn K (.ref f_half_cells) = true)
    (a_only_cell : PySem.W.nsIn K mainGlobals "_only_cell" = some (some (.ref f_only_cell))) (l_only_cell : K.lookup f_only_cell = some ⟨oc_only_cell, od_only_cell, .func (PySem.W.fnOf "_only_cell" "_only_cell" (defArgs s_only_cell) (defBody s_only_cell) (defScope s_only_cell) .none kV_only_cell dc_only_cell pm_only_cell an_only_cell cd_only_cell ct_only_cell), sl_only_cell⟩) (c_only_cell : PySem.W.codeIn K cd_only_cell "_only_cell" = true) (k_only_cell : PySem.W.keepIn K (.ref f_only_cell) = true)
    (a_long_cells : PySem.W.nsIn K mainGlobals "_long_cells" = some (some (.ref f_long_cells))) (l_long_cells : K.lookup f_long_cells = some ⟨oc_long_cells, od_long_cells, .func (PySem.W.fnOf "_long_cells" "_long_cells" (defArgs s_long_cells) (defBody s_long_cells) (defScope s_long_cells) .none kV_long_cells dc_long_cells pm_long_cells an_long_cells cd_long_cells ct_long_cells), sl_long_cells⟩) (c_long_cells : PySem.W.codeIn K cd_long_cells "_long_cells" = true) (k_long_cells : PySem.W.keepIn K (.ref f_long_cells) = true)
    (a_law_bag : PySem.W.nsIn K mainGlobals "_law_bag" = some (some (.ref f_law_bag))) (l_law_bag : K.lookup f_law_bag = some ⟨oc_law_bag, od_law_bag, .func (PySem.W.fnOf "_law_bag" "_law_bag" (defArgs s_law_bag) (defBody s_law_bag) (defScope s_law_bag) .none kV_law_bag dc_law_bag pm_law_bag an_law_bag cd_law_bag ct_law_bag), sl_law_bag⟩) (c_law_bag : PySem.W.codeIn K cd_law_bag "_law_bag" = true) (k_law_bag : PySem.W.keepIn K (.ref f_law_bag) = true)
    (a_law_draw : PySem.W.nsIn K mainGlobals "_law_draw" = some (some (.ref f_law_draw))) (l_law_draw : K.lookup f_law_draw = some ⟨oc_law_draw, od_law_draw, .func (PySem.W.fnOf "_law_draw" "_law_draw" (defArgs s_law_draw) (defBody s_law_draw) (defScope s_law_draw) .none kV_law_draw dc_law_draw pm_law_draw an_law_draw cd_law_draw ct_law_draw), sl_law_draw⟩) (c_law_draw : PySem.W.codeIn K cd_law_draw "_law_draw" = true) (k_law_draw : PySem.W.keepIn K (.ref f_law_draw) = true)
    (a_law_of : PySem.W.nsIn K mainGlobals "_law_of" = some (some (.ref f_law_of))) (l_law_of : K.lookup f_law_of = some ⟨oc_law_of, od_law_of, .func (PySem.W.fnOf "_law_of" "_law_of" (defArgs s_law_of) (defBody s_law_of) (defScope s_law_of) .none kV_law_of dc_law_of pm_law_of an_law_of cd_law_of ct_law_of), sl_law_of⟩) (c_law_of : PySem.W.codeIn K cd_law_of "_law_of" = true) (k_law_of : PySem.W.keepIn K (.ref f_law_of) = true)
    (a_law_same : PySem.W.nsIn K mainGlobals "_law_same" = some (some (.ref f_law_same))) (l_law_same : K.lookup f_law_same = some ⟨oc_law_same, od_law_same, .func (PySem.W.fnOf "_law_same" "_law_same" (defArgs s_law_same) (defBody s_law_same) (defScope s_law_same) .none kV_law_same dc_law_same pm_law_same an_law_same cd_law_same ct_law_same), sl_law_same⟩) (c_law_same : PySem.W.codeIn K cd_law_same "_law_same" = true) (k_law_same : PySem.W.keepIn K (.ref f_law_same) = true)
    (a_law_titles : PySem.W.nsIn K mainGlobals "_law_titles" = some (some (.ref f_law_titles))) (l_law_titles : K.lookup f_law_titles = some ⟨oc_law_titles, od_law_titles, .func (PySem.W.fnOf "_law_titles" "_law_titles" (defArgs s_law_titles) (defBody s_law_titles) (defScope s_law_titles) .none kV_law_titles dc_law_titles pm_law_titles an_law_titles cd_law_titles ct_law_titles), sl_law_titles⟩) (c_law_titles : PySem.W.codeIn K cd_law_titles "_law_titles" = true) (k_law_titles : PySem.W.keepIn K (.ref f_law_titles) = true)
    (a_law_number : PySem.W.nsIn K mainGlobals "_law_number" = some (some (.ref f_law_number))) (l_law_number : K.lookup f_law_number = some ⟨oc_law_number, od_law_number, .func (PySem.W.fnOf "_law_number" "_law_number" (defArgs s_law_number) (defBody s_law_number) (defScope s_law_number) .none kV_law_number dc_law_number pm_law_number an_law_number cd_law_number ct_law_number), sl_law_number⟩) (c_law_number : PySem.W.codeIn K cd_law_number "_law_number" = true) (k_law_number : PySem.W.keepIn K (.ref f_law_number) = true)
    (a_law_r : PySem.W.nsIn K mainGlobals "_law_r" = some (some (.ref f_law_r))) (l_law_r : K.lookup f_law_r = some ⟨oc_law_r, od_law_r, .func (PySem.W.fnOf "_law_r" "_law_r" (defArgs s_law_r) (defBody s_law_r) (defScope s_law_r) .none kV_law_r dc_law_r pm_law_r an_law_r cd_law_r ct_law_r), sl_law_r⟩) (c_law_r : PySem.W.codeIn K cd_law_r "_law_r" = true) (k_law_r : PySem.W.keepIn K (.ref f_law_r) = true)
    (a_law_code_row : PySem.W.nsIn K mainGlobals "_law_code_row" = some (some (.ref f_law_code_row))) (l_law_code_row : K.lookup f_law_code_row = some ⟨oc_law_code_row, od_law_code_row, .func (PySem.W.fnOf "_law_code_row" "_law_code_row" (defArgs s_law_code_row) (defBody s_law_code_row) (defScope s_law_code_row) .none kV_law_code_row dc_law_code_row pm_law_code_row an_law_code_row cd_law_code_row ct_law_code_row), sl_law_code_row⟩) (c_law_code_row : PySem.W.codeIn K cd_law_code_row "_law_code_row" = true) (k_law_code_row : PySem.W.keepIn K (.ref f_law_code_row) = true)
    (a_law_last_row : PySem.W.nsIn K mainGlobals "_law_last_row" = some (some (.ref f_law_last_row))) (l_law_last_row : K.lookup f_law_last_row = some ⟨oc_law_last_row, od_law_last_row, .func (PySem.W.fnOf "_law_last_row" "_law_last_row" (defArgs s_law_last_row) (defBody s_law_last_row) (defScope s_law_last_row) .none kV_law_last_row dc_law_last_row pm_law_last_row an_law_last_row cd_law_last_row ct_law_last_row), sl_law_last_row⟩) (c_law_last_row : PySem.W.codeIn K cd_law_last_row "_law_last_row" = true) (k_law_last_row : PySem.W.keepIn K (.ref f_law_last_row) = true)
    (a_law_done : PySem.W.nsIn K mainGlobals "_law_done" = some (some (.ref f_law_done))) (l_law_done : K.lookup f_law_done = some ⟨oc_law_done, od_law_done, .func (PySem.W.fnOf "_law_done" "_law_done" (defArgs s_law_done) (defBody s_law_done) (defScope s_law_done) .none kV_law_done dc_law_done pm_law_done an_law_done cd_law_done ct_law_done), sl_law_done⟩) (c_law_done : PySem.W.codeIn K cd_law_done "_law_done" = true) (k_law_done : PySem.W.keepIn K (.ref f_law_done) = true)
    (a_law_due : PySem.W.nsIn K mainGlobals "_law_due" = some (some (.ref f_law_due))) (l_law_due : K.lookup f_law_due = some ⟨oc_law_due, od_law_due, .func (PySem.W.fnOf "_law_due" "_law_due" (defArgs s_law_due) (defBody s_law_due) (defScope s_law_due) .none kV_law_due dc_law_due pm_law_due an_law_due cd_law_due ct_law_due), sl_law_due⟩) (c_law_due : PySem.W.codeIn K cd_law_due "_law_due" = true) (k_law_due : PySem.W.keepIn K (.ref f_law_due) = true)
    (a_law_without_third : PySem.W.nsIn K mainGlobals "_law_without_third" = some (some (.ref f_law_without_third))) (l_law_without_third : K.lookup f_law_without_third = some ⟨oc_law_without_third, od_law_without_third, .func (PySem.W.fnOf "_law_without_third" "_law_without_third" (defArgs s_law_without_third) (defBody s_law_without_third) (defScope s_law_without_third) .none kV_law_without_third dc_law_without_third pm_law_without_third an_law_without_third cd_law_without_third ct_law_without_third), sl_law_without_third⟩) (c_law_without_third : PySem.W.codeIn K cd_law_without_third "_law_without_third" = true) (k_law_without_third : PySem.W.keepIn K (.ref f_law_without_third) = true)
    (a_law : PySem.W.nsIn K mainGlobals "law" = some (some (.ref f_law))) (l_law : K.lookup f_law = some ⟨oc_law, od_law, .func (PySem.W.fnOf "law" "law" (defArgs s_law) (defBody s_law) (defScope s_law) .none kV_law dc_law pm_law an_law cd_law ct_law), sl_law⟩) (c_law : PySem.W.codeIn K cd_law "law" = true) (k_law : PySem.W.keepIn K (.ref f_law) = true)
    (n_abs : PySem.W.nsIn K mainGlobals "abs" = some none)
    (n_all : PySem.W.nsIn K mainGlobals "all" = some none)
    (n_bool : PySem.W.nsIn K mainGlobals "bool" = some none)
    (n_int : PySem.W.nsIn K mainGlobals "int" = some none)
    (n_isinstance : PySem.W.nsIn K mainGlobals "isinstance" = some none)
    (n_len : PySem.W.nsIn K mainGlobals "len" = some none)
    (n_list : PySem.W.nsIn K mainGlobals "list" = some none)
    (n_range : PySem.W.nsIn K mainGlobals "range" = some none)
    (n_str : PySem.W.nsIn K mainGlobals "str" = some none)
    (n_tuple : PySem.W.nsIn K mainGlobals "tuple" = some none)
    (n_zip : PySem.W.nsIn K mainGlobals "zip" = some none)
    (g_REGISTERS : PySem.W.nsIn K mainGlobals "REGISTERS" = some (some (.ref q_REGISTERS)))
    {qi_REGISTERS : Array Value} {qn_REGISTERS : Nat} {qs_REGISTERS : Array (Option Value)} (v_REGISTERS : K.lookup q_REGISTERS = some ⟨.type "tuple", none, .seq qi_REGISTERS qn_REGISTERS, qs_REGISTERS⟩) (w_REGISTERS : Vals [.str "r0", .str "r1", .str "r2"] qi_REGISTERS.toList)
    (g_CODES : PySem.W.nsIn K mainGlobals "CODES" = some (some (.ref q_CODES)))
    {qi_CODES : Array Value} {qn_CODES : Nat} {qs_CODES : Array (Option Value)} (v_CODES : K.lookup q_CODES = some ⟨.type "tuple", none, .seq qi_CODES qn_CODES, qs_CODES⟩) (w_CODES : Vals [.str "fault", .str "halt", .str "high", .str "low", .str "add", .str "take", .str "load", .str "store", .str "jump", .str "ifzero", .str "call", .str "near", .str "jumpby", .str "callby", .str "back", .str "out"] qi_CODES.toList)
    {tk_HIDDEN : Tok} (g_HIDDEN : PySem.W.nsIn K mainGlobals "HIDDEN" = some (some (.int 3 tk_HIDDEN)))
    (g_SHORT_CODES : PySem.W.nsIn K mainGlobals "SHORT_CODES" = some (some (.ref q_SHORT_CODES)))
    {qe_SHORT_CODES : Array DictEntry} {qz_SHORT_CODES : Nat} (dl_SHORT_CODES : K.lookup q_SHORT_CODES = some ⟨.type "dict", none, .dict qe_SHORT_CODES qz_SHORT_CODES, #[]⟩) (dk_SHORT_CODES : PySem.W.KeysLit w.params qe_SHORT_CODES.toList) (dw_SHORT_CODES : (q_SHORT_CODES == sysModules) = false)
    {tk_SHORT_CODES_name : Tok}
    {tk_SHORT_CODES_jump : Tok}
    {tk_SHORT_CODES_ifzero : Tok}
    {tk_SHORT_CODES_call : Tok}
    (pe_SHORT_CODES : Paired (fun (d : DictEntry) (p : Str × Value) => (∃ t, d.key = .str p.1 t) ∧ d.val = p.2) qe_SHORT_CODES.toList [("name", Value.str "near" tk_SHORT_CODES_name), ("jump", Value.str "jump" tk_SHORT_CODES_jump), ("ifzero", Value.str "ifzero" tk_SHORT_CODES_ifzero), ("call", Value.str "call" tk_SHORT_CODES_call)])
    : ∃ fd : FuncData, (∀ (s : Shared) (v : Value), BindsTo s fd ⟨[v], []⟩ [("_law_script", v)]) ∧ ∀ base : Heap, K.In base → base.Ns mainGlobals mg → FnOk l.prog w K mg base CX0 7 fa fd ["_law_script"] (sp_law K) := by
  have e := hfa.symm.trans (PySem.W.mg_of X G a_law)
  cases e
  have F_is_number := fun_mk (st := s_is_number) l_is_number c_is_number k_is_number
  have F_cell_of : FunD K "cell_of" "cell_of" (defArgs s_cell_of) (defBody s_cell_of) (defScope s_cell_of) [.int 0, .int 0, .int 0] [] f_cell_of _ := ⟨⟨_, _, _, _, _, _, _, _, _, _, rfl, l_cell_of, c_cell_of, .inr ⟨(fun z => nomatch z), t_cell_of, _, ti_cell_of.toList, tn_cell_of, rfl, tl_cell_of, (by simp), tv_cell_of⟩, .inl rfl⟩, k_cell_of⟩
  have F_with_part := fun_mk (st := s_with_part) l_with_part c_with_part k_with_part
  have F_high_half := fun_mk (st := s_high_half) l_high_half c_high_half k_high_half
  have F_low_half := fun_mk (st := s_low_half) l_low_half c_low_half k_low_half
  have F_unsigned := fun_mk (st := s_unsigned) l_unsigned c_unsigned k_unsigned
  have F_row_cells : FunD K "row_cells" "row_cells" (defArgs s_row_cells) (defBody s_row_cells) (defScope s_row_cells) [.bl false] [] f_row_cells _ := ⟨⟨_, _, _, _, _, _, _, _, _, _, rfl, l_row_cells, c_row_cells, .inr ⟨(fun z => nomatch z), t_row_cells, _, ti_row_cells.toList, tn_row_cells, rfl, tl_row_cells, (by simp), tv_row_cells⟩, .inl rfl⟩, k_row_cells⟩
  have F_stub_cells := fun_mk (st := s_stub_cells) l_stub_cells c_stub_cells k_stub_cells
  have F_placed := fun_mk (st := s_placed) l_placed c_placed k_placed
  have F_number := fun_mk (st := s_number) l_number c_number k_number
  have F_first_number := fun_mk (st := s_first_number) l_first_number c_first_number k_first_number
  have F_half_cells := fun_mk (st := s_half_cells) l_half_cells c_half_cells k_half_cells
  have F_only_cell := fun_mk (st := s_only_cell) l_only_cell c_only_cell k_only_cell
  have F_long_cells := fun_mk (st := s_long_cells) l_long_cells c_long_cells k_long_cells
  have F_law_bag := fun_mk (st := s_law_bag) l_law_bag c_law_bag k_law_bag
  have F_law_draw := fun_mk (st := s_law_draw) l_law_draw c_law_draw k_law_draw
  have F_law_of := fun_mk (st := s_law_of) l_law_of c_law_of k_law_of
  have F_law_same := fun_mk (st := s_law_same) l_law_same c_law_same k_law_same
  have F_law_titles := fun_mk (st := s_law_titles) l_law_titles c_law_titles k_law_titles
  have F_law_number := fun_mk (st := s_law_number) l_law_number c_law_number k_law_number
  have F_law_r := fun_mk (st := s_law_r) l_law_r c_law_r k_law_r
  have F_law_code_row := fun_mk (st := s_law_code_row) l_law_code_row c_law_code_row k_law_code_row
  have F_law_last_row := fun_mk (st := s_law_last_row) l_law_last_row c_law_last_row k_law_last_row
  have F_law_done := fun_mk (st := s_law_done) l_law_done c_law_done k_law_done
  have F_law_due := fun_mk (st := s_law_due) l_law_due c_law_due k_law_due
  have F_law_without_third := fun_mk (st := s_law_without_third) l_law_without_third c_law_without_third k_law_without_third
  have F_law := fun_mk (st := s_law) l_law c_law k_law
  let Z : Fs := ⟨f_is_number, PySem.W.fnOf "is_number" "is_number" (defArgs s_is_number) (defBody s_is_number) (defScope s_is_number) .none kV_is_number dc_is_number pm_is_number an_is_number cd_is_number ct_is_number, f_cell_of, PySem.W.fnOf "cell_of" "cell_of" (defArgs s_cell_of) (defBody s_cell_of) (defScope s_cell_of) (.ref t_cell_of) kV_cell_of dc_cell_of pm_cell_of an_cell_of cd_cell_of ct_cell_of, f_with_part, PySem.W.fnOf "with_part" "with_part" (defArgs s_with_part) (defBody s_with_part) (defScope s_with_part) .none kV_with_part dc_with_part pm_with_part an_with_part cd_with_part ct_with_part, f_high_half, PySem.W.fnOf "high_half" "high_half" (defArgs s_high_half) (defBody s_high_half) (defScope s_high_half) .none kV_high_half dc_high_half pm_high_half an_high_half cd_high_half ct_high_half, f_low_half, PySem.W.fnOf "low_half" "low_half" (defArgs s_low_half) (defBody s_low_half) (defScope s_low_half) .none kV_low_half dc_low_half pm_low_half an_low_half cd_low_half ct_low_half, f_unsigned, PySem.W.fnOf "unsigned" "unsigned" (defArgs s_unsigned) (defBody s_unsigned) (defScope s_unsigned) .none kV_unsigned dc_unsigned pm_unsigned an_unsigned cd_unsigned ct_unsigned, f_row_cells, PySem.W.fnOf "row_cells" "row_cells" (defArgs s_row_cells) (defBody s_row_cells) (defScope s_row_cells) (.ref t_row_cells) kV_row_cells dc_row_cells pm_row_cells an_row_cells cd_row_cells ct_row_cells, f_stub_cells, PySem.W.fnOf "stub_cells" "stub_cells" (defArgs s_stub_cells) (defBody s_stub_cells) (defScope s_stub_cells) .none kV_stub_cells dc_stub_cells pm_stub_cells an_stub_cells cd_stub_cells ct_stub_cells, f_placed, PySem.W.fnOf "placed" "placed" (defArgs s_placed) (defBody s_placed) (defScope s_placed) .none kV_placed dc_placed pm_placed an_placed cd_placed ct_placed, f_number, PySem.W.fnOf "_number" "_number" (defArgs s_number) (defBody s_number) (defScope s_number) .none kV_number dc_number pm_number an_number cd_number ct_number, f_first_number, PySem.W.fnOf "_first_number" "_first_number" (defArgs s_first_number) (defBody s_first_number) (defScope s_first_number) .none kV_first_number dc_first_number pm_first_number an_first_number cd_first_number ct_first_number, f_half_cells, PySem.W.fnOf "_half_cells" "_half_cells" (defArgs s_half_cells) (defBody s_half_cells) (defScope s_half_cells) .none kV_half_cells dc_half_cells pm_half_cells an_half_cells cd_half_cells ct_half_cells, f_only_cell, PySem.W.fnOf "_only_cell" "_only_cell" (defArgs s_only_cell) (defBody s_only_cell) (defScope s_only_cell) .none kV_only_cell dc_only_cell pm_only_cell an_only_cell cd_only_cell ct_only_cell, f_long_cells, PySem.W.fnOf "_long_cells" "_long_cells" (defArgs s_long_cells) (defBody s_long_cells) (defScope s_long_cells) .none kV_long_cells dc_long_cells pm_long_cells an_long_cells cd_long_cells ct_long_cells, f_law_bag, PySem.W.fnOf "_law_bag" "_law_bag" (defArgs s_law_bag) (defBody s_law_bag) (defScope s_law_bag) .none kV_law_bag dc_law_bag pm_law_bag an_law_bag cd_law_bag ct_law_bag, f_law_draw, PySem.W.fnOf "_law_draw" "_law_draw" (defArgs s_law_draw) (defBody s_law_draw) (defScope s_law_draw) .none kV_law_draw dc_law_draw pm_law_draw an_law_draw cd_law_draw ct_law_draw, f_law_of, PySem.W.fnOf "_law_of" "_law_of" (defArgs s_law_of) (defBody s_law_of) (defScope s_law_of) .none kV_law_of dc_law_of pm_law_of an_law_of cd_law_of ct_law_of, f_law_same, PySem.W.fnOf "_law_same" "_law_same" (defArgs s_law_same) (defBody s_law_same) (defScope s_law_same) .none kV_law_same dc_law_same pm_law_same an_law_same cd_law_same ct_law_same, f_law_titles, PySem.W.fnOf "_law_titles" "_law_titles" (defArgs s_law_titles) (defBody s_law_titles) (defScope s_law_titles) .none kV_law_titles dc_law_titles pm_law_titles an_law_titles cd_law_titles ct_law_titles, f_law_number, PySem.W.fnOf "_law_number" "_law_number" (defArgs s_law_number) (defBody s_law_number) (defScope s_law_number) .none kV_law_number dc_law_number pm_law_number an_law_number cd_law_number ct_law_number, f_law_r, PySem.W.fnOf "_law_r" "_law_r" (defArgs s_law_r) (defBody s_law_r) (defScope s_law_r) .none kV_law_r dc_law_r pm_law_r an_law_r cd_law_r ct_law_r, f_law_code_row, PySem.W.fnOf "_law_code_row" "_law_code_row" (defArgs s_law_code_row) (defBody s_law_code_row) (defScope s_law_code_row) .none kV_law_code_row dc_law_code_row pm_law_code_row an_law_code_row cd_law_code_row ct_law_code_row, f_law_last_row, PySem.W.fnOf "_law_last_row" "_law_last_row" (defArgs s_law_last_row) (defBody s_law_last_row) (defScope s_law_last_row) .none kV_law_last_row dc_law_last_row pm_law_last_row an_law_last_row cd_law_last_row ct_law_last_row, f_law_done, PySem.W.fnOf "_law_done" "_law_done" (defArgs s_law_done) (defBody s_law_done) (defScope s_law_done) .none kV_law_done dc_law_done pm_law_done an_law_done cd_law_done ct_law_done, f_law_due, PySem.W.fnOf "_law_due" "_law_due" (defArgs s_law_due) (defBody s_law_due) (defScope s_law_due) .none kV_law_due dc_law_due pm_law_due an_law_due cd_law_due ct_law_due, f_law_without_third, PySem.W.fnOf "_law_without_third" "_law_without_third" (defArgs s_law_without_third) (defBody s_law_without_third) (defScope s_law_without_third) .none kV_law_without_third dc_law_without_third pm_law_without_third an_law_without_third cd_law_without_third ct_law_without_third, fa, PySem.W.fnOf "law" "law" (defArgs s_law) (defBody s_law) (defScope s_law) .none kV_law dc_law pm_law an_law cd_law ct_law, qe_SHORT_CODES, qz_SHORT_CODES, q_REGISTERS, q_CODES, q_SHORT_CODES⟩
  have T : Txt K w mg Z := ⟨F_is_number,
    PySem.W.mg_of X G a_is_number,
    F_is_number.binds (ps := ["value", "least", "most"]) fun _ _ _ _ _ _ us hl => match us, hl with | [_, _, _], _ => rfl,
    F_cell_of,
    PySem.W.mg_of X G a_cell_of,
    kbn_d_cell_of_1_r_part F_cell_of,
    kbn_d_cell_of_2 F_cell_of,
    kbn_d_cell_of_3 F_cell_of,
    kbn_d_cell_of_4 F_cell_of,
    kbn_d_cell_of_1_part F_cell_of,
    kbn_d_cell_of_2_part F_cell_of,
    F_with_part,
    PySem.W.mg_of X G a_with_part,
    F_with_part.binds (ps := ["cell", "part"]) fun _ _ _ _ _ _ us hl => match us, hl with | [_, _], _ => rfl,
    F_high_half,
    PySem.W.mg_of X G a_high_half,
    F_high_half.binds (ps := ["address"]) fun _ _ _ _ _ _ us hl => match us, hl with | [_], _ => rfl,
    F_low_half,
    PySem.W.mg_of X G a_low_half,
    F_low_half.binds (ps := ["address"]) fun _ _ _ _ _ _ us hl => match us, hl with | [_], _ => rfl,
    F_unsigned,
    PySem.W.mg_of X G a_unsigned,
    F_unsigned.binds (ps := ["value"]) fun _ _ _ _ _ _ us hl => match us, hl with | [_], _ => rfl,
    F_row_cells,
    PySem.W.mg_of X G a_row_cells,
    kbn_d_row_cells_4 F_row_cells,
    F_stub_cells,
    PySem.W.mg_of X G a_stub_cells,
    F_stub_cells.binds (ps := ["slot"]) fun _ _ _ _ _ _ us hl => match us, hl with | [_], _ => rfl,
    F_placed,
    PySem.W.mg_of X G a_placed,
    F_placed.binds (ps := ["cell", "field", "address"]) fun _ _ _ _ _ _ us hl => match us, hl with | [_, _, _], _ => rfl,
    F_number,
    PySem.W.mg_of X G a_number,
    F_number.binds (ps := ["name"]) fun _ _ _ _ _ _ us hl => match us, hl with | [_], _ => rfl,
    F_first_number,
    PySem.W.mg_of X G a_first_number,
    F_first_number.binds (ps := ["row"]) fun _ _ _ _ _ _ us hl => match us, hl with | [_], _ => rfl,
    F_half_cells,
    PySem.W.mg_of X G a_half_cells,
    F_half_cells.binds (ps := ["r", "address"]) fun _ _ _ _ _ _ us hl => match us, hl with | [_, _], _ => rfl,
    F_only_cell,
    PySem.W.mg_of X G a_only_cell,
    F_only_cell.binds (ps := ["row"]) fun _ _ _ _ _ _ us hl => match us, hl with | [_], _ => rfl,
    F_long_cells,
    PySem.W.mg_of X G a_long_cells,
    F_long_cells.binds (ps := ["row", "target"]) fun _ _ _ _ _ _ us hl => match us, hl with | [_, _], _ => rfl,
    F_law_bag,
    PySem.W.mg_of X G a_law_bag,
    F_law_bag.binds (ps := ["_law_script"]) fun _ _ _ _ _ _ us hl => match us, hl with | [_], _ => rfl,
    F_law_draw,
    PySem.W.mg_of X G a_law_draw,
    F_law_draw.binds (ps := ["_law_bag_here", "_law_sides"]) fun _ _ _ _ _ _ us hl => match us, hl with | [_, _], _ => rfl,
    F_law_of,
    PySem.W.mg_of X G a_law_of,
    F_law_of.binds (ps := ["_law_bag_here", "_law_things"]) fun _ _ _ _ _ _ us hl => match us, hl with | [_, _], _ => rfl,
    F_law_same,
    PySem.W.mg_of X G a_law_same,
    F_law_same.binds (ps := ["_law_found", "_law_due_here"]) fun _ _ _ _ _ _ us hl => match us, hl with | [_, _], _ => rfl,
    F_law_titles,
    PySem.W.mg_of X G a_law_titles,
    F_law_titles.binds (ps := ["_law_bag_here", "_law_many"]) fun _ _ _ _ _ _ us hl => match us, hl with | [_, _], _ => rfl,
    F_law_number,
    PySem.W.mg_of X G a_law_number,
    F_law_number.binds (ps := ["_law_bag_here"]) fun _ _ _ _ _ _ us hl => match us, hl with | [_], _ => rfl,
    F_law_r,
    PySem.W.mg_of X G a_law_r,
    F_law_r.binds (ps := ["_law_bag_here"]) fun _ _ _ _ _ _ us hl => match us, hl with | [_], _ => rfl,
    F_law_code_row,
    PySem.W.mg_of X G a_law_code_row,
    F_law_code_row.binds (ps := ["_law_bag_here", "_law_titles_here"]) fun _ _ _ _ _ _ us hl => match us, hl with | [_, _], _ => rfl,
    F_law_last_row,
    PySem.W.mg_of X G a_law_last_row,
    F_law_last_row.binds (ps := ["_law_bag_here", "_law_titles_here"]) fun _ _ _ _ _ _ us hl => match us, hl with | [_, _], _ => rfl,
    F_law_done,
    PySem.W.mg_of X G a_law_done,
    F_law_done.binds (ps := ["_law_lot", "_law_place_y", "_law_registers", "_law_held"]) fun _ _ _ _ _ _ us hl => match us, hl with | [_, _, _, _], _ => rfl,
    F_law_due,
    PySem.W.mg_of X G a_law_due,
    F_law_due.binds (ps := ["_law_one", "_law_place_y", "_law_goal", "_law_registers", "_law_held", "_law_size"]) fun _ _ _ _ _ _ us hl => match us, hl with | [_, _, _, _, _, _], _ => rfl,
    F_law_without_third,
    PySem.W.mg_of X G a_law_without_third,
    F_law_without_third.binds (ps := ["_law_done_here"]) fun _ _ _ _ _ _ us hl => match us, hl with | [_], _ => rfl,
    F_law,
    PySem.W.mg_of X G a_law,
    F_law.binds (ps := ["_law_script"]) fun _ _ _ _ _ _ us hl => match us, hl with | [_], _ => rfl,
    PySem.W.mg_none_of X G n_abs,
    PySem.W.mg_none_of X G n_all,
    PySem.W.mg_none_of X G n_bool,
    PySem.W.mg_none_of X G n_int,
    PySem.W.mg_none_of X G n_isinstance,
    PySem.W.mg_none_of X G n_len,
    PySem.W.mg_none_of X G n_list,
    PySem.W.mg_none_of X G n_range,
    PySem.W.mg_none_of X G n_str,
    PySem.W.mg_none_of X G n_tuple,
    PySem.W.mg_none_of X G n_zip,
    PySem.W.mg_of X G g_REGISTERS,
    fun _ => .inr ⟨_, _, _, v_REGISTERS, rfl, rfl, (Nat.le_trans (Nat.le_of_eq (Array.length_toList.symm.trans w_REGISTERS.length.symm)) (by show 3 ≤ sizeLine; decide)), w_REGISTERS⟩,
    ⟨_, v_REGISTERS, rfl, rfl⟩,
    PySem.W.mg_of X G g_CODES,
    fun _ => .inr ⟨_, _, _, v_CODES, rfl, rfl, (Nat.le_trans (Nat.le_of_eq (Array.length_toList.symm.trans w_CODES.length.symm)) (by show 16 ≤ sizeLine; decide)), w_CODES⟩,
    ⟨_, v_CODES, rfl, rfl⟩,
    ⟨_, PySem.W.mg_of X G g_HIDDEN⟩,
    PySem.W.mg_of X G g_SHORT_CODES,
    ⟨dl_SHORT_CODES, dk_SHORT_CODES, dw_SHORT_CODES⟩,
    fun z => ⟨_, nsIn_of dl_SHORT_CODES pe_SHORT_CODES z, find_rel (show Paired (fun (p : Str × V) (q : Str × Value) => p.1 = q.1 ∧ RelV p.2 q.2) tb_SHORT_CODES [("name", Value.str "near" tk_SHORT_CODES_name), ("jump", Value.str "jump" tk_SHORT_CODES_jump), ("ifzero", Value.str "ifzero" tk_SHORT_CODES_ifzero), ("call", Value.str "call" tk_SHORT_CODES_call)] from (.cons ⟨rfl, ⟨_, rfl⟩⟩ (.cons ⟨rfl, ⟨_, rfl⟩⟩ (.cons ⟨rfl, ⟨_, rfl⟩⟩ (.cons ⟨rfl, ⟨_, rfl⟩⟩ .nil))))) z⟩⟩
  exact ⟨Z.d_law, fun s v => .of_eq rfl, fun base _ _ => ok_law T⟩
end Kk
open PySem PySem.W PyProof.Rows
set_option maxRecDepth 100000 in
set_option maxHeartbeats 0 in
theorem PySem.Challenge.cw_leastimage_k15_whole_forms_lead_home_holds : PySem.Challenge.rw_leastimage_k15_whole_forms_lead_home.Holds := by
  w_on; o_law; k_head; (case hw => w_witness2)
  k_fill
  refine L2.walk_of (l := PySem.Challenge.rw_leastimage_k15_whole_forms_lead_home) (n := 63) (k := 7) (x := "_law_script") (CX := fun _ => L2.CX0) (sp := fun w => Kk.sp_law _) rfl (by decide) rfl ⟨rfl, by decide, by decide⟩ (fun w h Y => PySem.W.kIn_of Y) ?F (fun _ _ a ns hl _ hS => ⟨a, ns, rfl, hS, hl, fun _ => rfl⟩) (fun _ _ _ _ _ h => h)
  case F =>
    intro w mg fa h KX G hmg
    refine' Kk.all_mk KX G hmg ?a_is_number ?l_is_number ?c_is_number ?k_is_number ?a_cell_of ?l_cell_of ?c_cell_of ?k_cell_of ?tl_cell_of ?tv_cell_of ?a_with_part ?l_with_part ?c_with_part ?k_with_part ?a_high_half ?l_high_half ?c_high_half ?k_high_half ?a_low_half ?l_low_half ?c_low_half ?k_low_half ?a_unsigned ?l_unsigned ?c_unsigned ?k_unsigned ?a_row_cells ?l_row_cells ?c_row_cells ?k_row_cells ?tl_row_cells ?tv_row_cells ?a_stub_cells ?l_stub_cells ?c_stub_cells ?k_stub_cells ?a_placed ?l_placed ?c_placed ?k_placed ?a_number ?l_number ?c_number ?k_number ?a_first_number ?l_first_number ?c_first_number ?k_first_number ?a_half_cells ?l_half_cells ?c_half_cells ?k_half_cells ?a_only_cell ?l_only_cell ?c_only_cell ?k_only_cell ?a_long_cells ?l_long_cells ?c_long_cells ?k_long_cells ?a_law_bag ?l_law_bag ?c_law_bag ?k_law_bag ?a_law_draw ?l_law_draw ?c_law_draw ?k_law_draw ?a_law_of ?l_law_of ?c_law_of ?k_law_of ?a_law_same ?l_law_same ?c_law_same ?k_law_same ?a_law_titles ?l_law_titles ?c_law_titles ?k_law_titles ?a_law_number ?l_law_number ?c_law_number ?k_law_number ?a_law_r ?l_law_r ?c_law_r ?k_law_r ?a_law_code_row ?l_law_code_row ?c_law_code_row ?k_law_code_row ?a_law_last_row ?l_law_last_row ?c_law_last_row ?k_law_last_row ?a_law_done ?l_law_done ?c_law_done ?k_law_done ?a_law_due ?l_law_due ?c_law_due ?k_law_due ?a_law_without_third ?l_law_without_third ?c_law_without_third ?k_law_without_third ?a_law ?l_law ?c_law ?k_law ?n_abs ?n_all ?n_bool ?n_int ?n_isinstance ?n_len ?n_list ?n_range ?n_str ?n_tuple ?n_zip ?g_REGISTERS ?v_REGISTERS ?w_REGISTERS ?g_CODES ?v_CODES ?w_CODES ?g_HIDDEN ?g_SHORT_CODES ?dl_SHORT_CODES ?dk_SHORT_CODES ?dw_SHORT_CODES ?pe_SHORT_CODES
    (case a_is_number => k_is)
    (case l_is_number => k_is)
    (case c_is_number => k_is)
    (case k_is_number => k_is)
    (case a_cell_of => k_is)
    (case l_cell_of => k_is)
    (case c_cell_of => k_is)
    (case k_cell_of => k_is)
    (case tl_cell_of => k_is)
    (case tv_cell_of => exact (.cons ⟨_, rfl⟩ (.cons ⟨_, rfl⟩ (.cons ⟨_, rfl⟩ .nil))))
    (case a_with_part => k_is)
    (case l_with_part => k_is)
    (case c_with_part => k_is)
    (case k_with_part => k_is)
    (case a_high_half => k_is)
    (case l_high_half => k_is)
    (case c_high_half => k_is)
    (case k_high_half => k_is)
    (case a_low_half => k_is)
    (case l_low_half => k_is)
    (case c_low_half => k_is)
    (case k_low_half => k_is)
    (case a_unsigned => k_is)
    (case l_unsigned => k_is)
    (case c_unsigned => k_is)
    (case k_unsigned => k_is)
    (case a_row_cells => k_is)
    (case l_row_cells => k_is)
    (case c_row_cells => k_is)
    (case k_row_cells => k_is)
    (case tl_row_cells => k_is)
    (case tv_row_cells => exact (.cons rfl .nil))
    (case a_stub_cells => k_is)
    (case l_stub_cells => k_is)
    (case c_stub_cells => k_is)
    (case k_stub_cells => k_is)
    (case a_placed => k_is)
    (case l_placed => k_is)
    (case c_placed => k_is)
    (case k_placed => k_is)
    (case a_number => k_is)
    (case l_number => k_is)
    (case c_number => k_is)
    (case k_number => k_is)
    (case a_first_number => k_is)
    (case l_first_number => k_is)
    (case c_first_number => k_is)
    (case k_first_number => k_is)
    (case a_half_cells => k_is)
    (case l_half_cells => k_is)
    (case c_half_cells => k_is)
    (case k_half_cells => k_is)
    (case a_only_cell => k_is)
    (case l_only_cell => k_is)
    (case c_only_cell => k_is)
    (case k_only_cell => k_is)
    (case a_long_cells => k_is)
    (case l_long_cells => k_is)
    (case c_long_cells => k_is)
    (case k_long_cells => k_is)
    (case a_law_bag => k_is)
    (case l_law_bag => k_is)
    (case c_law_bag => k_is)
    (case k_law_bag => k_is)
    (case a_law_draw => k_is)
    (case l_law_draw => k_is)
    (case c_law_draw => k_is)
    (case k_law_draw => k_is)
    (case a_law_of => k_is)
    (case l_law_of => k_is)
    (case c_law_of => k_is)
    (case k_law_of => k_is)
    (case a_law_same => k_is)
    (case l_law_same => k_is)
    (case c_law_same => k_is)
    (case k_law_same => k_is)
    (case a_law_titles => k_is)
    (case l_law_titles => k_is)
    (case c_law_titles => k_is)
    (case k_law_titles => k_is)
    (case a_law_number => k_is)
    (case l_law_number => k_is)
    (case c_law_number => k_is)
    (case k_law_number => k_is)
    (case a_law_r => k_is)
    (case l_law_r => k_is)
    (case c_law_r => k_is)
    (case k_law_r => k_is)
    (case a_law_code_row => k_is)
    (case l_law_code_row => k_is)
    (case c_law_code_row => k_is)
    (case k_law_code_row => k_is)
    (case a_law_last_row => k_is)
    (case l_law_last_row => k_is)
    (case c_law_last_row => k_is)
    (case k_law_last_row => k_is)
    (case a_law_done => k_is)
    (case l_law_done => k_is)
    (case c_law_done => k_is)
    (case k_law_done => k_is)
    (case a_law_due => k_is)
    (case l_law_due => k_is)
    (case c_law_due => k_is)
    (case k_law_due => k_is)
    (case a_law_without_third => k_is)
    (case l_law_without_third => k_is)
    (case c_law_without_third => k_is)
    (case k_law_without_third => k_is)
    (case a_law => k_is)
    (case l_law => k_is)
    (case c_law => k_is)
    (case k_law => k_is)
    (case n_abs => k_is)
    (case n_all => k_is)
    (case n_bool => k_is)
    (case n_int => k_is)
    (case n_isinstance => k_is)
    (case n_len => k_is)
    (case n_list => k_is)
    (case n_range => k_is)
    (case n_str => k_is)
    (case n_tuple => k_is)
    (case n_zip => k_is)
    (case g_REGISTERS => k_is)
    (case v_REGISTERS => k_is)
    (case w_REGISTERS => exact (.cons ⟨_, rfl⟩ (.cons ⟨_, rfl⟩ (.cons ⟨_, rfl⟩ .nil))))
    (case g_CODES => k_is)
    (case v_CODES => k_is)
    (case w_CODES => exact (.cons ⟨_, rfl⟩ (.cons ⟨_, rfl⟩ (.cons ⟨_, rfl⟩ (.cons ⟨_, rfl⟩ (.cons ⟨_, rfl⟩ (.cons ⟨_, rfl⟩ (.cons ⟨_, rfl⟩ (.cons ⟨_, rfl⟩ (.cons ⟨_, rfl⟩ (.cons ⟨_, rfl⟩ (.cons ⟨_, rfl⟩ (.cons ⟨_, rfl⟩ (.cons ⟨_, rfl⟩ (.cons ⟨_, rfl⟩ (.cons ⟨_, rfl⟩ (.cons ⟨_, rfl⟩ .nil)))))))))))))))))
    (case g_HIDDEN => k_is)
    (case g_SHORT_CODES => k_is)
    (case dl_SHORT_CODES => k_is)
    (case dk_SHORT_CODES => repeat (first | exact trivial | refine ⟨⟨_, _, rfl, rfl⟩, ?_⟩))
    (case dw_SHORT_CODES => first | rfl | decide +kernel)
    (case pe_SHORT_CODES => exact (.cons ⟨⟨_, rfl⟩, rfl⟩ (.cons ⟨⟨_, rfl⟩, rfl⟩ (.cons ⟨⟨_, rfl⟩, rfl⟩ (.cons ⟨⟨_, rfl⟩, rfl⟩ .nil)))))

