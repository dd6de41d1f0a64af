import PyProof.Rows.All
import Wide.All
import OpenK.AllK
import Wide.FinOn
import HandS.ForMost
import HandS.Walk
import HandS.IsInst
import HandS.Zip
import HandS.Style
import HandS.Codes
import HandS.Defaults
import HandS.Evl
import HandS.More
import HandS.Strs
import HandS.FStr
import HandS.MakeKw
import HandS.MakeKwOnly
import HandS.OwnEq
import HandS.Property
import HandS.Star
import HandS.RaiseMore
import HandS.StrMore
import HandS.Text
import KE.GoesEnum
import KE.GoesMore
import KE.RegKIsAll
import KE.IntTextText
import KE.KIntText
import KE.OsScanText
import PySem.Challenge.RW_leastimage_k02_rows_judged
set_option Elab.async false
set_option maxRecDepth 100000
set_option maxHeartbeats 4000000
set_option linter.all false
namespace Kk
open PySem L2 PyProof.Rows
/-! ### the text by places, what the top has written -/
/-- a table of the text: the first entry of a word -/
def findT {α : Type} (l : List (Str × α)) (z : Str) : Option α := (l.find? fun p => decide (p.1 = z)).map (·.2)
def RelOpt {α : Type} (R : α → Value → Prop) : Option α → Option Value → Prop
  | some x, some u => R x u
  | none, none => True
  | _, _ => False
def RelTu (K : PySem.W.Frag) (xs : List V) (u : Value) : Prop := ∃ t, u = .ref t ∧ ∀ H : Hp, SqT K H t xs
theorem find_rel {α : Type} {R : α → Value → Prop} : ∀ {l : List (Str × α)} {m : List (Str × Value)}, Paired (fun (p : Str × α) (q : Str × Value) => p.1 = q.1 ∧ R p.2 q.2) l m → ∀ z, RelOpt R (findT l z) (findT m z)
  | _, _, .nil, _ => trivial
  | p :: l, q :: m, .cons r t, z => by
    unfold findT
    rw [List.find?_cons, List.find?_cons, ← r.1]
    cases decide (p.1 = z) with
    | true => exact r.2
    | false => exact find_rel t z
theorem nsIn_of {K : PySem.W.Frag} {c : Addr} {ty : Value} {dd : Option Addr} {es : Array DictEntry} {n : Nat} {sl : Array (Option Value)} (h : K.lookup c = some ⟨ty, dd, .dict es n, sl⟩) {L : List (Str × Value)}
    (e : Paired (fun (d : DictEntry) (p : Str × Value) => (∃ t, d.key = .str p.1 t) ∧ d.val = p.2) es.toList L) (z : Str) : PySem.W.nsIn K c z = some (findT L z) := by
  unfold PySem.W.nsIn
  rw [h]
  dsimp only
  have k : ∀ (l : List DictEntry) (L : List (Str × Value)), Paired (fun (d : DictEntry) (p : Str × Value) => (∃ t, d.key = .str p.1 t) ∧ d.val = p.2) l L → (l.find? (·.key.isStr z)).map (·.val) = findT L z ∧ l.any (·.refKey) = false := by
    intro l L e
    induction e with
    | nil => exact ⟨rfl, rfl⟩
    | @cons d p l L r _ ih =>
      obtain ⟨⟨t, hk⟩, hv⟩ := r
      have e1 : d.key.isStr z = decide (p.1 = z) := by
        rw [hk]
        show (p.1 == z) = decide (p.1 = z)
        rw [Bool.eq_iff_iff]
        simp
      have e2 : d.refKey = false := by
        unfold DictEntry.refKey
        rw [hk]
      refine ⟨?_, by rw [List.any_cons, e2, ih.2]; rfl⟩
      unfold findT at ih ⊢
      rw [List.find?_cons, List.find?_cons, e1]
      cases decide (p.1 = z) with
      | true => exact congrArg some hv
      | false => exact ih.1
  obtain ⟨k1, k2⟩ := k _ _ e
  cases q : es.toList.find? (·.key.isStr z) with
  | some d =>
    rw [q] at k1
    rw [← k1]
    rfl
  | none =>
    rw [q] at k1
    rw [← k1]
    simp [k2]
def top (i : Nat) : Stmt := PySem.Challenge.pw_leastimage_k02_rows_judged.main.body.getD i (.Pass ⟨0, 0, 0, 0⟩)
abbrev s_is_name : Stmt := top 3
abbrev N_is_name : List Str := ["value", "letter"]
theorem sc_is_name : FnScope N_is_name ["value"] (defScope s_is_name) := ⟨rfl, rfl, rfl, by decide +kernel, rfl, by decide +kernel, by decide +kernel⟩
abbrev s_is_register : Stmt := top 4
abbrev N_is_register : List Str := ["value"]
theorem sc_is_register : FnScope N_is_register ["value"] (defScope s_is_register) := ⟨rfl, rfl, rfl, by decide +kernel, rfl, by decide +kernel, by decide +kernel⟩
abbrev s_is_number : Stmt := top 5
abbrev N_is_number : List Str := ["value", "least", "most"]
theorem sc_is_number : FnScope N_is_number ["value", "least", "most"] (defScope s_is_number) := ⟨rfl, rfl, rfl, by decide +kernel, rfl, by decide +kernel, by decide +kernel⟩
abbrev s_is_code_row : Stmt := top 12
abbrev N_is_code_row : List Str := ["value", "word"]
theorem sc_is_code_row : FnScope N_is_code_row ["value"] (defScope s_is_code_row) := ⟨rfl, rfl, rfl, by decide +kernel, rfl, by decide +kernel, by decide +kernel⟩
abbrev s_is_data_row : Stmt := top 13
abbrev N_is_data_row : List Str := ["value", "word"]
theorem sc_is_data_row : FnScope N_is_data_row ["value"] (defScope s_is_data_row) := ⟨rfl, rfl, rfl, by decide +kernel, rfl, by decide +kernel, by decide +kernel⟩
abbrev s_is_closing : Stmt := top 14
abbrev N_is_closing : List Str := ["row"]
theorem sc_is_closing : FnScope N_is_closing ["row"] (defScope s_is_closing) := ⟨rfl, rfl, rfl, by decide +kernel, rfl, by decide +kernel, by decide +kernel⟩
abbrev s_name_in : Stmt := top 15
abbrev N_name_in : List Str := ["row"]
theorem sc_name_in : FnScope N_name_in ["row"] (defScope s_name_in) := ⟨rfl, rfl, rfl, by decide +kernel, rfl, by decide +kernel, by decide +kernel⟩
abbrev s_word_of : Stmt := top 16
abbrev N_word_of : List Str := ["value"]
theorem sc_word_of : FnScope N_word_of ["value"] (defScope s_word_of) := ⟨rfl, rfl, rfl, by decide +kernel, rfl, by decide +kernel, by decide +kernel⟩
abbrev s_fit : Stmt := top 17
abbrev N_fit : List Str := ["items", "kinds", "item", "kind"]
theorem sc_fit : FnScope N_fit ["items", "kinds"] (defScope s_fit) := ⟨rfl, rfl, rfl, by decide +kernel, rfl, by decide +kernel, by decide +kernel⟩
abbrev s_fits : Stmt := top 18
abbrev N_fits : List Str := ["item", "kind", "least", "most"]
theorem sc_fits : FnScope N_fits ["item", "kind"] (defScope s_fits) := ⟨rfl, rfl, rfl, by decide +kernel, rfl, by decide +kernel, by decide +kernel⟩
abbrev s_law_bag : Stmt := top 20
abbrev N_law_bag : List Str := ["_law_script", "_law_mixed", "_law_piled"]
theorem sc_law_bag : FnScope N_law_bag ["_law_script"] (defScope s_law_bag) := ⟨rfl, rfl, rfl, by decide +kernel, rfl, by decide +kernel, by decide +kernel⟩
abbrev s_law_draw : Stmt := top 21
abbrev N_law_draw : List Str := ["_law_bag_here", "_law_sides", "_law_piled", "_law_digit", "_law_seed"]
theorem sc_law_draw : FnScope N_law_draw ["_law_bag_here", "_law_sides"] (defScope s_law_draw) := ⟨rfl, rfl, rfl, by decide +kernel, rfl, by decide +kernel, by decide +kernel⟩
abbrev s_law_of : Stmt := top 22
abbrev N_law_of : List Str := ["_law_bag_here", "_law_things"]
theorem sc_law_of : FnScope N_law_of ["_law_bag_here", "_law_things"] (defScope s_law_of) := ⟨rfl, rfl, rfl, by decide +kernel, rfl, by decide +kernel, by decide +kernel⟩
abbrev s_law_same : Stmt := top 23
abbrev N_law_same : List Str := ["_law_found", "_law_due", "_law_a", "_law_b"]
theorem sc_law_same : FnScope N_law_same ["_law_found", "_law_due"] (defScope s_law_same) := ⟨rfl, rfl, rfl, by decide +kernel, rfl, by decide +kernel, by decide +kernel⟩
abbrev s_law_odd : Stmt := top 24
abbrev N_law_odd : List Str := ["_law_bag_here", "_law_more"]
theorem sc_law_odd : FnScope N_law_odd ["_law_bag_here", "_law_more"] (defScope s_law_odd) := ⟨rfl, rfl, rfl, by decide +kernel, rfl, by decide +kernel, by decide +kernel⟩
abbrev s_law_titles : Stmt := top 25
abbrev N_law_titles : List Str := ["_law_bag_here", "_law_many", "_law_left", "_law_found", "_law_stem", "_law_k", "_law_spot"]
theorem sc_law_titles : FnScope N_law_titles ["_law_bag_here", "_law_many"] (defScope s_law_titles) := ⟨rfl, rfl, rfl, by decide +kernel, rfl, by decide +kernel, by decide +kernel⟩
abbrev s_law_number : Stmt := top 26
abbrev N_law_number : List Str := ["_law_bag_here"]
theorem sc_law_number : FnScope N_law_number ["_law_bag_here"] (defScope s_law_number) := ⟨rfl, rfl, rfl, by decide +kernel, rfl, by decide +kernel, by decide +kernel⟩
abbrev s_law_r : Stmt := top 27
abbrev N_law_r : List Str := ["_law_bag_here"]
theorem sc_law_r : FnScope N_law_r ["_law_bag_here"] (defScope s_law_r) := ⟨rfl, rfl, rfl, by decide +kernel, rfl, by decide +kernel, by decide +kernel⟩
abbrev s_law_code_row : Stmt := top 28
abbrev N_law_code_row : List Str := ["_law_bag_here", "_law_titles_here", "_law_way"]
theorem sc_law_code_row : FnScope N_law_code_row ["_law_bag_here", "_law_titles_here"] (defScope s_law_code_row) := ⟨rfl, rfl, rfl, by decide +kernel, rfl, by decide +kernel, by decide +kernel⟩
abbrev s_law_last_row : Stmt := top 29
abbrev N_law_last_row : List Str := ["_law_bag_here", "_law_titles_here"]
theorem sc_law_last_row : FnScope N_law_last_row ["_law_bag_here", "_law_titles_here"] (defScope s_law_last_row) := ⟨rfl, rfl, rfl, by decide +kernel, rfl, by decide +kernel, by decide +kernel⟩
abbrev s_law_data_row : Stmt := top 30
abbrev N_law_data_row : List Str := ["_law_bag_here", "_law_titles_here", "_law_way"]
theorem sc_law_data_row : FnScope N_law_data_row ["_law_bag_here", "_law_titles_here"] (defScope s_law_data_row) := ⟨rfl, rfl, rfl, by decide +kernel, rfl, by decide +kernel, by decide +kernel⟩
abbrev s_law_is_title : Stmt := top 31
abbrev N_law_is_title : List Str := ["_law_thing", "_law_sign"]
theorem sc_law_is_title : FnScope N_law_is_title ["_law_thing"] (defScope s_law_is_title) := ⟨rfl, rfl, rfl, by decide +kernel, rfl, by decide +kernel, by decide +kernel⟩
abbrev s_law_within : Stmt := top 32
abbrev N_law_within : List Str := ["_law_thing", "_law_low_y", "_law_high_y"]
theorem sc_law_within : FnScope N_law_within ["_law_thing", "_law_low_y", "_law_high_y"] (defScope s_law_within) := ⟨rfl, rfl, rfl, by decide +kernel, rfl, by decide +kernel, by decide +kernel⟩
abbrev s_law_code_so : Stmt := top 33
abbrev N_law_code_so : List Str := ["_law_thing", "_law_own", "_law_rest"]
theorem sc_law_code_so : FnScope N_law_code_so ["_law_thing"] (defScope s_law_code_so) := ⟨rfl, rfl, rfl, by decide +kernel, rfl, by decide +kernel, by decide +kernel⟩
abbrev s_law_data_so : Stmt := top 34
abbrev N_law_data_so : List Str := ["_law_thing"]
theorem sc_law_data_so : FnScope N_law_data_so ["_law_thing"] (defScope s_law_data_so) := ⟨rfl, rfl, rfl, by decide +kernel, rfl, by decide +kernel, by decide +kernel⟩
abbrev s_law_bent_row : Stmt := top 35
abbrev N_law_bent_row : List Str := ["_law_bag_here", "_law_one", "_law_titles_here", "_law_items", "_law_way", "_law_spot", "_law_strange"]
theorem sc_law_bent_row : FnScope N_law_bent_row ["_law_bag_here", "_law_one", "_law_titles_here"] (defScope s_law_bent_row) := ⟨rfl, rfl, rfl, by decide +kernel, rfl, by decide +kernel, by decide +kernel⟩
abbrev s_law_row_words : Stmt := top 36
abbrev N_law_row_words : List Str := ["_law_found"]
theorem sc_law_row_words : FnScope N_law_row_words [] (defScope s_law_row_words) := ⟨rfl, rfl, rfl, by decide +kernel, rfl, by decide +kernel, by decide +kernel⟩
abbrev s_law_bounds : Stmt := top 37
abbrev N_law_bounds : List Str := ["_law_found"]
theorem sc_law_bounds : FnScope N_law_bounds [] (defScope s_law_bounds) := ⟨rfl, rfl, rfl, by decide +kernel, rfl, by decide +kernel, by decide +kernel⟩
abbrev s_law : Stmt := top 38
abbrev N_law : List Str := ["_law_script", "_law_bag_here", "_law_titles_here", "_law_turn", "_law_one", "_law_bent", "_law_closing", "_law_known", "_law_item", "_law_named", "_law_thing", "_law_due"]
theorem sc_law : FnScope N_law ["_law_script"] (defScope s_law) := ⟨rfl, rfl, rfl, by decide +kernel, rfl, by decide +kernel, by decide +kernel⟩
structure Fs where
  (a_is_name : Addr) (d_is_name : FuncData)
  (a_is_register : Addr) (d_is_register : FuncData)
  (a_is_number : Addr) (d_is_number : FuncData)
  (a_is_code_row : Addr) (d_is_code_row : FuncData)
  (a_is_data_row : Addr) (d_is_data_row : FuncData)
  (a_is_closing : Addr) (d_is_closing : FuncData)
  (a_name_in : Addr) (d_name_in : FuncData)
  (a_word_of : Addr) (d_word_of : FuncData)
  (a_fit : Addr) (d_fit : FuncData)
  (a_fits : Addr) (d_fits : FuncData)
  (a_law_bag : Addr) (d_law_bag : FuncData)
  (a_law_draw : Addr) (d_law_draw : FuncData)
  (a_law_of : Addr) (d_law_of : FuncData)
  (a_law_same : Addr) (d_law_same : FuncData)
  (a_law_odd : Addr) (d_law_odd : FuncData)
  (a_law_titles : Addr) (d_law_titles : FuncData)
  (a_law_number : Addr) (d_law_number : FuncData)
  (a_law_r : Addr) (d_law_r : FuncData)
  (a_law_code_row : Addr) (d_law_code_row : FuncData)
  (a_law_last_row : Addr) (d_law_last_row : FuncData)
  (a_law_data_row : Addr) (d_law_data_row : FuncData)
  (a_law_is_title : Addr) (d_law_is_title : FuncData)
  (a_law_within : Addr) (d_law_within : FuncData)
  (a_law_code_so : Addr) (d_law_code_so : FuncData)
  (a_law_data_so : Addr) (d_law_data_so : FuncData)
  (a_law_bent_row : Addr) (d_law_bent_row : FuncData)
  (a_law_row_words : Addr) (d_law_row_words : FuncData)
  (a_law_bounds : Addr) (d_law_bounds : FuncData)
  (a_law : Addr) (d_law : FuncData)
  (e_CODE_ROWS : Array DictEntry) (z_CODE_ROWS : Nat)
  (e_DATA_ROWS : Array DictEntry) (z_DATA_ROWS : Nat)
  (e_BOUNDS : Array DictEntry) (z_BOUNDS : Nat)
  (c_REGISTERS : Addr)
  (c_CODE_ROWS : Addr)
  (c_DATA_ROWS : Addr)
  (c_BOUNDS : Addr)
  (c_CLOSING : Addr)
  (c_NAMING : Addr)
def tb_CODE_ROWS : List (Str × List V) := [("put", [.str "R", .str "n"]), ("name", [.str "R", .str "N"]), ("add", [.str "R", .str "R"]), ("take", [.str "R", .str "R"]), ("load", [.str "R", .str "R", .str "d"]), ("store", [.str "R", .str "R", .str "d"]), ("jump", [.str "N"]), ("ifzero", [.str "R", .str "N"]), ("call", [.str "N"]), ("callby", [.str "R"]), ("back", []), ("out", [.str "R"]), ("halt", []), ("room", [.str "k"])]
def tb_DATA_ROWS : List (Str × List V) := [("word", [.str "n"]), ("address", [.str "N"]), ("room", [.str "k"])]
def tb_BOUNDS : List (Str × List V) := [("n", [.int 0, .int 65535]), ("d", [.int 0, .int 15]), ("k", [.int 1, .int 120])]
structure Txt (K : PySem.W.Frag) (w : World) (mg : Str → Option Value) (Z : Fs) : Prop where
  F_is_name : Fun K "is_name" "is_name" s_is_name Z.a_is_name Z.d_is_name
  m_is_name : mg "is_name" = some (.ref Z.a_is_name)
  b_is_name : Binds K Z.d_is_name ["value"] []
  F_is_register : Fun K "is_register" "is_register" s_is_register Z.a_is_register Z.d_is_register
  m_is_register : mg "is_register" = some (.ref Z.a_is_register)
  b_is_register : Binds K Z.d_is_register ["value"] []
  F_is_number : Fun K "is_number" "is_number" s_is_number Z.a_is_number Z.d_is_number
  m_is_number : mg "is_number" = some (.ref Z.a_is_number)
  b_is_number : Binds K Z.d_is_number ["value", "least", "most"] []
  F_is_code_row : Fun K "is_code_row" "is_code_row" s_is_code_row Z.a_is_code_row Z.d_is_code_row
  m_is_code_row : mg "is_code_row" = some (.ref Z.a_is_code_row)
  b_is_code_row : Binds K Z.d_is_code_row ["value"] []
  k_is_code_row_0_value : KBn K Z.d_is_code_row ["value"] 0 ["value"] (fun us ws => [(us ++ ws).getD 0 .none]) (fun us ws => [(us ++ ws).getD 0 .non])
  F_is_data_row : Fun K "is_data_row" "is_data_row" s_is_data_row Z.a_is_data_row Z.d_is_data_row
  m_is_data_row : mg "is_data_row" = some (.ref Z.a_is_data_row)
  b_is_data_row : Binds K Z.d_is_data_row ["value"] []
  k_is_data_row_0_value : KBn K Z.d_is_data_row ["value"] 0 ["value"] (fun us ws => [(us ++ ws).getD 0 .none]) (fun us ws => [(us ++ ws).getD 0 .non])
  F_is_closing : Fun K "is_closing" "is_closing" s_is_closing Z.a_is_closing Z.d_is_closing
  m_is_closing : mg "is_closing" = some (.ref Z.a_is_closing)
  b_is_closing : Binds K Z.d_is_closing ["row"] []
  k_is_closing_0_row : KBn K Z.d_is_closing ["row"] 0 ["row"] (fun us ws => [(us ++ ws).getD 0 .none]) (fun us ws => [(us ++ ws).getD 0 .non])
  F_name_in : Fun K "name_in" "name_in" s_name_in Z.a_name_in Z.d_name_in
  m_name_in : mg "name_in" = some (.ref Z.a_name_in)
  b_name_in : Binds K Z.d_name_in ["row"] []
  k_name_in_0_row : KBn K Z.d_name_in ["row"] 0 ["row"] (fun us ws => [(us ++ ws).getD 0 .none]) (fun us ws => [(us ++ ws).getD 0 .non])
  F_word_of : Fun K "_word_of" "_word_of" s_word_of Z.a_word_of Z.d_word_of
  m_word_of : mg "_word_of" = some (.ref Z.a_word_of)
  b_word_of : Binds K Z.d_word_of ["value"] []
  F_fit : Fun K "_fit" "_fit" s_fit Z.a_fit Z.d_fit
  m_fit : mg "_fit" = some (.ref Z.a_fit)
  b_fit : Binds K Z.d_fit ["items", "kinds"] []
  F_fits : Fun K "_fits" "_fits" s_fits Z.a_fits Z.d_fits
  m_fits : mg "_fits" = some (.ref Z.a_fits)
  b_fits : Binds K Z.d_fits ["item", "kind"] []
  F_law_bag : Fun K "_law_bag" "_law_bag" s_law_bag Z.a_law_bag Z.d_law_bag
  m_law_bag : mg "_law_bag" = some (.ref Z.a_law_bag)
  b_law_bag : Binds K Z.d_law_bag ["_law_script"] []
  F_law_draw : Fun K "_law_draw" "_law_draw" s_law_draw Z.a_law_draw Z.d_law_draw
  m_law_draw : mg "_law_draw" = some (.ref Z.a_law_draw)
  b_law_draw : Binds K Z.d_law_draw ["_law_bag_here", "_law_sides"] []
  F_law_of : Fun K "_law_of" "_law_of" s_law_of Z.a_law_of Z.d_law_of
  m_law_of : mg "_law_of" = some (.ref Z.a_law_of)
  b_law_of : Binds K Z.d_law_of ["_law_bag_here", "_law_things"] []
  F_law_same : Fun K "_law_same" "_law_same" s_law_same Z.a_law_same Z.d_law_same
  m_law_same : mg "_law_same" = some (.ref Z.a_law_same)
  b_law_same : Binds K Z.d_law_same ["_law_found", "_law_due"] []
  F_law_odd : Fun K "_law_odd" "_law_odd" s_law_odd Z.a_law_odd Z.d_law_odd
  m_law_odd : mg "_law_odd" = some (.ref Z.a_law_odd)
  b_law_odd : Binds K Z.d_law_odd ["_law_bag_here", "_law_more"] []
  F_law_titles : Fun K "_law_titles" "_law_titles" s_law_titles Z.a_law_titles Z.d_law_titles
  m_law_titles : mg "_law_titles" = some (.ref Z.a_law_titles)
  b_law_titles : Binds K Z.d_law_titles ["_law_bag_here", "_law_many"] []
  F_law_number : Fun K "_law_number" "_law_number" s_law_number Z.a_law_number Z.d_law_number
  m_law_number : mg "_law_number" = some (.ref Z.a_law_number)
  b_law_number : Binds K Z.d_law_number ["_law_bag_here"] []
  F_law_r : Fun K "_law_r" "_law_r" s_law_r Z.a_law_r Z.d_law_r
  m_law_r : mg "_law_r" = some (.ref Z.a_law_r)
  b_law_r : Binds K Z.d_law_r ["_law_bag_here"] []
  F_law_code_row : Fun K "_law_code_row" "_law_code_row" s_law_code_row Z.a_law_code_row Z.d_law_code_row
  m_law_code_row : mg "_law_code_row" = some (.ref Z.a_law_code_row)
  b_law_code_row : Binds K Z.d_law_code_row ["_law_bag_here", "_law_titles_here"] []
  F_law_last_row : Fun K "_law_last_row" "_law_last_row" s_law_last_row Z.a_law_last_row Z.d_law_last_row
  m_law_last_row : mg "_law_last_row" = some (.ref Z.a_law_last_row)
  b_law_last_row : Binds K Z.d_law_last_row ["_law_bag_here", "_law_titles_here"] []
  F_law_data_row : Fun K "_law_data_row" "_law_data_row" s_law_data_row Z.a_law_data_row Z.d_law_data_row
  m_law_data_row : mg "_law_data_row" = some (.ref Z.a_law_data_row)
  b_law_data_row : Binds K Z.d_law_data_row ["_law_bag_here", "_law_titles_here"] []
  F_law_is_title : Fun K "_law_is_title" "_law_is_title" s_law_is_title Z.a_law_is_title Z.d_law_is_title
  m_law_is_title : mg "_law_is_title" = some (.ref Z.a_law_is_title)
  b_law_is_title : Binds K Z.d_law_is_title ["_law_thing"] []
  F_law_within : Fun K "_law_within" "_law_within" s_law_within Z.a_law_within Z.d_law_within
  m_law_within : mg "_law_within" = some (.ref Z.a_law_within)
  b_law_within : Binds K Z.d_law_within ["_law_thing", "_law_low_y", "_law_high_y"] []
  F_law_code_so : Fun K "_law_code_so" "_law_code_so" s_law_code_so Z.a_law_code_so Z.d_law_code_so
  m_law_code_so : mg "_law_code_so" = some (.ref Z.a_law_code_so)
  b_law_code_so : Binds K Z.d_law_code_so ["_law_thing"] []
  F_law_data_so : Fun K "_law_data_so" "_law_data_so" s_law_data_so Z.a_law_data_so Z.d_law_data_so
  m_law_data_so : mg "_law_data_so" = some (.ref Z.a_law_data_so)
  b_law_data_so : Binds K Z.d_law_data_so ["_law_thing"] []
  F_law_bent_row : Fun K "_law_bent_row" "_law_bent_row" s_law_bent_row Z.a_law_bent_row Z.d_law_bent_row
  m_law_bent_row : mg "_law_bent_row" = some (.ref Z.a_law_bent_row)
  b_law_bent_row : Binds K Z.d_law_bent_row ["_law_bag_here", "_law_one", "_law_titles_here"] []
  F_law_row_words : Fun K "_law_row_words" "_law_row_words" s_law_row_words Z.a_law_row_words Z.d_law_row_words
  m_law_row_words : mg "_law_row_words" = some (.ref Z.a_law_row_words)
  b_law_row_words : Binds K Z.d_law_row_words [] []
  F_law_bounds : Fun K "_law_bounds" "_law_bounds" s_law_bounds Z.a_law_bounds Z.d_law_bounds
  m_law_bounds : mg "_law_bounds" = some (.ref Z.a_law_bounds)
  b_law_bounds : Binds K Z.d_law_bounds [] []
  F_law : Fun K "law" "law" s_law Z.a_law Z.d_law
  m_law : mg "law" = some (.ref Z.a_law)
  b_law : Binds K Z.d_law ["_law_script"] []
  n_abs : mg "abs" = none
  n_all : mg "all" = none
  n_bool : mg "bool" = none
  n_int : mg "int" = none
  n_isinstance : mg "isinstance" = none
  n_len : mg "len" = none
  n_list : mg "list" = none
  n_range : mg "range" = none
  n_str : mg "str" = none
  n_tuple : mg "tuple" = none
  n_zip : mg "zip" = none
  g_MOST_LETTERS : ∃ t, mg "MOST_LETTERS" = some (.int 6 t)
  g_REGISTERS : mg "REGISTERS" = some (.ref Z.c_REGISTERS)
  v_REGISTERS : ∀ H : Hp, SqT K H Z.c_REGISTERS [.str "r0", .str "r1", .str "r2"]
  L_REGISTERS : ∃ o, K.lookup Z.c_REGISTERS = some o ∧ o.cls = .type "tuple" ∧ o.dict = none
  g_CODE_ROWS : mg "CODE_ROWS" = some (.ref Z.c_CODE_ROWS)
  g_DATA_ROWS : mg "DATA_ROWS" = some (.ref Z.c_DATA_ROWS)
  g_BOUNDS : mg "BOUNDS" = some (.ref Z.c_BOUNDS)
  g_CLOSING : mg "CLOSING" = some (.ref Z.c_CLOSING)
  v_CLOSING : ∀ H : Hp, SqT K H Z.c_CLOSING [.str "jump", .str "halt", .str "back"]
  L_CLOSING : ∃ o, K.lookup Z.c_CLOSING = some o ∧ o.cls = .type "tuple" ∧ o.dict = none
  g_NAMING : mg "NAMING" = some (.ref Z.c_NAMING)
  v_NAMING : ∀ H : Hp, SqT K H Z.c_NAMING [.str "name", .str "jump", .str "ifzero", .str "call", .str "address"]
  L_NAMING : ∃ o, K.lookup Z.c_NAMING = some o ∧ o.cls = .type "tuple" ∧ o.dict = none
  D_CODE_ROWS : KDict K w Z.c_CODE_ROWS Z.e_CODE_ROWS Z.z_CODE_ROWS
  x_CODE_ROWS : ∀ z : Str, ∃ r, PySem.W.nsIn K Z.c_CODE_ROWS z = some r ∧ RelOpt (RelTu K) (findT tb_CODE_ROWS z) r
  D_DATA_ROWS : KDict K w Z.c_DATA_ROWS Z.e_DATA_ROWS Z.z_DATA_ROWS
  x_DATA_ROWS : ∀ z : Str, ∃ r, PySem.W.nsIn K Z.c_DATA_ROWS z = some r ∧ RelOpt (RelTu K) (findT tb_DATA_ROWS z) r
  D_BOUNDS : KDict K w Z.c_BOUNDS Z.e_BOUNDS Z.z_BOUNDS
  x_BOUNDS : ∀ z : Str, ∃ r, PySem.W.nsIn K Z.c_BOUNDS z = some r ∧ RelOpt (RelTu K) (findT tb_BOUNDS z) r
section
variable {X : Cx} {CX : CXT} {k : Nat} {f : Addr} {fd : FuncData} {ps ks : List Str} {sp : Sp} {E : XK} {x : Str} {p pos : Pos} {kws : List Keyword} {tk : TA} {g : List Value → List Value → List Value} {gV : List V → List V → List V}
/-- f(k = v, ..), no value by place -/
theorem pe_callN0 (F : FnOk X.prog X.w X.K X.mg X.base CX k f fd ps sp) (hr : Room k X.A) (hg : Gl X x) (hm : X.mg x = some (.ref f)) (hk : PySem.W.keepIn X.K (.ref f) = true) (hb : KBn X.K fd ps 0 ks g gV) (hx : Passes CX X E) (hkw : PK X kws tk)
    (hall : (backToKw pos (keywordEach kws X.env)).all (·.1.isSome) = true := by rfl) (hks : (backToKw pos (keywordEach kws X.env)).filterMap (·.1) = ks := by rfl) (hdb : (x == ("__debug__" : Str)) = false := by decide)
    (hpl : ((backTo pos (starEach [] X.env)).any (·.1) || (backToKw pos (keywordEach kws X.env)).any (·.1.isNone)) = false := by rfl) :
    PE X (.Call (.Name x p) [] kws pos) (tCallN 0 ks.length sp gV E tNil tk) := by
  refine ⟨fun pins s σ H Q I h => ?_⟩
  refine wpAny_Call_Name_kw (ld_glob I hg hm ?_ hdb)
  refine PySem.W.callWith_KW0 (h₀ := X.base) I.ok.mod.kin hk hall ?_ hpl
  refine thn (hkw.run pos pins s σ H _ I h) fun ws s2 ⟨zs, H2, I2, rz, l1, l2, q2⟩ => ⟨I2.kIn, ?_⟩
  rw [hks]
  exact run_fnN (us := []) (vs := []) F hr hb hx I2 .nil rz rfl l2 q2
end
theorem getD_rel : ∀ {vs : List V} {us : List Value} (h : Vals vs us) (i : Nat), RelV (vs.getD i .non) (us.getD i .none)
  | _, _, .nil, _ => rfl
  | _, _, .cons r _, 0 => r
  | _, _, .cons _ t, i + 1 => getD_rel t i
theorem kbn_k_is_code_row_0_value {K : PySem.W.Frag} {f : Addr} {fd : FuncData} (F : Fun K "is_code_row" "is_code_row" s_is_code_row f fd) : KBn K fd ["value"] 0 ["value"] (fun us ws => [(us ++ ws).getD 0 .none]) (fun us ws => [(us ++ ws).getD 0 .non]) := by
  obtain ⟨oc, od, kV, doc, pm, an, cdv, ct, osl, rfl, lk, hcd⟩ := F.ex
  refine ⟨fun s us ws _ l1 l2 => ?_, fun r1 r2 => .cons (getD_rel (r1.append r2) 0) (.nil)⟩
  match us, ws, l1, l2 with
  | [], [_], _, _ => exact .of_eq rfl
theorem kbn_k_is_data_row_0_value {K : PySem.W.Frag} {f : Addr} {fd : FuncData} (F : Fun K "is_data_row" "is_data_row" s_is_data_row f fd) : KBn K fd ["value"] 0 ["value"] (fun us ws => [(us ++ ws).getD 0 .none]) (fun us ws => [(us ++ ws).getD 0 .non]) := by
  obtain ⟨oc, od, kV, doc, pm, an, cdv, ct, osl, rfl, lk, hcd⟩ := F.ex
  refine ⟨fun s us ws _ l1 l2 => ?_, fun r1 r2 => .cons (getD_rel (r1.append r2) 0) (.nil)⟩
  match us, ws, l1, l2 with
  | [], [_], _, _ => exact .of_eq rfl
theorem kbn_k_is_closing_0_row {K : PySem.W.Frag} {f : Addr} {fd : FuncData} (F : Fun K "is_closing" "is_closing" s_is_closing f fd) : KBn K fd ["row"] 0 ["row"] (fun us ws => [(us ++ ws).getD 0 .none]) (fun us ws => [(us ++ ws).getD 0 .non]) := by
  obtain ⟨oc, od, kV, doc, pm, an, cdv, ct, osl, rfl, lk, hcd⟩ := F.ex
  refine ⟨fun s us ws _ l1 l2 => ?_, fun r1 r2 => .cons (getD_rel (r1.append r2) 0) (.nil)⟩
  match us, ws, l1, l2 with
  | [], [_], _, _ => exact .of_eq rfl
theorem kbn_k_name_in_0_row {K : PySem.W.Frag} {f : Addr} {fd : FuncData} (F : Fun K "name_in" "name_in" s_name_in f fd) : KBn K fd ["row"] 0 ["row"] (fun us ws => [(us ++ ws).getD 0 .none]) (fun us ws => [(us ++ ws).getD 0 .non]) := by
  obtain ⟨oc, od, kV, doc, pm, an, cdv, ct, osl, rfl, lk, hcd⟩ := F.ex
  refine ⟨fun s us ws _ l1 l2 => ?_, fun r1 r2 => .cons (getD_rel (r1.append r2) 0) (.nil)⟩
  match us, ws, l1, l2 with
  | [], [_], _, _ => exact .of_eq rfl
/-! ### the bag of the law: a list of a list of ints and four numbers -/
def Bag (H : Hp) (b l : Addr) : Prop := ∃ (ns : List Int) (i : Nat) (r m n : Int), H b = some (.lst [.ref l, .int i, .int r, .int m, .int n]) ∧ H l = some (.lst (ns.map V.int)) ∧ l ≠ b ∧ ns.length ≤ 63 ∧ 0 ≤ r ∧ 0 ≤ m ∧ m < 2147483648
/-- all that was tracked, the bag apart, is as it was -/
def Stp (b : Addr) (H H' : Hp) : Prop := ∀ a o, a ≠ b → H a = some o → H' a = some o
theorem Stp.refl {b : Addr} {H : Hp} : Stp b H H := fun _ _ _ h => h
theorem Stp.trans {b : Addr} {H H1 H2 : Hp} (x : Stp b H H1) (y : Stp b H1 H2) : Stp b H H2 := fun a o n h => y a o n (x a o n h)
theorem Stp.put {b : Addr} {H : Hp} {o : HO} : Stp b H (upd H b o) := fun a u n h => by rw [upd_ne n]; exact h
theorem Stp.new {b p : Addr} {H : Hp} {o : HO} (h : H p = none) : Stp b H (upd H p o) := fun a u _ e => by rw [upd_ne (ne_of_none e h)]; exact e
theorem Same.new {p : Addr} {H : Hp} {o : HO} (h : H p = none) : Same H (upd H p o) := fun a u e => by rw [upd_ne (ne_of_none e h)]; exact e
theorem Same.stp {b : Addr} {H H' : Hp} (h : Same H H') : Stp b H H' := fun a o _ e => h a o e
theorem Bag.same {b l : Addr} {H H' : Hp} (s : Same H H') (h : Bag H b l) : Bag H' b l := by
  obtain ⟨ns, i, r, m, n, h1, h2, h3⟩ := h
  exact ⟨ns, i, r, m, n, s _ _ h1, s _ _ h2, h3⟩
theorem Bag.new {b l p : Addr} {H : Hp} {o : HO} (h : Bag H b l) (hp : H p = none) : Bag (upd H p o) b l := h.same (Same.new hp)
theorem Bag.ne {b l p : Addr} {H : Hp} (h : Bag H b l) (hp : H p = none) : p ≠ b := by
  obtain ⟨ns, i, r, m, n, h1, _⟩ := h
  exact (ne_of_none h1 hp).symm
theorem Bag.nel {b l p : Addr} {H : Hp} (h : Bag H b l) (hp : H p = none) : p ≠ l := by
  obtain ⟨ns, i, r, m, n, _, h1, _⟩ := h
  exact (ne_of_none h1 hp).symm
/-- a list of one's own is written -/
theorem Bag.put {b l p : Addr} {H : Hp} {o : HO} (h : Bag H b l) (n : p ≠ b) (nl : p ≠ l) : Bag (upd H p o) b l := by
  obtain ⟨ns, i, r, m, c, h1, h2, h3⟩ := h
  exact ⟨ns, i, r, m, c, by rw [upd_ne n.symm]; exact h1, by rw [upd_ne nl.symm]; exact h2, h3⟩
/-- what was new is new: the bag stands behind, too -/
theorem Stp.free {b l p : Addr} {H H' : Hp} (s : Stp b H H') (hb : Bag H' b l) (hp : H' p = none) : H p = none := by
  cases q : H p with
  | none => rfl
  | some o =>
    rw [s p o (hb.ne hp) q] at hp
    cases hp
theorem Stp.sqL {K : PySem.W.Frag} {b a : Addr} {H H' : Hp} {xs : List V} (s : Stp b H H') (n : a ≠ b) (h : SqL K H a xs) : SqL K H' a xs := by
  rcases h with (h | ⟨o, h⟩) | h
  · exact .inl (.inl (s _ _ n h))
  · exact .inl (.inr ⟨o, s _ _ n h⟩)
  · exact .inr h
theorem Stp.sqT {K : PySem.W.Frag} {b a : Addr} {H H' : Hp} {xs : List V} (s : Stp b H H') (n : a ≠ b) (h : SqT K H a xs) : SqT K H' a xs := by
  rcases h with (h | ⟨o, h⟩) | h
  · exact .inl (.inl (s _ _ n h))
  · exact .inl (.inr ⟨o, s _ _ n h⟩)
  · exact .inr h
/-- new: not tracked ahead, another one than the bag -/
theorem cut_ints (ns : List Int) (k : Nat) : cutV (ns.map V.int) none (some (k : Int)) = (ns.take k).map V.int := by
  unfold cutV
  rw [HT.sIx_none, HT.sIx_nat, List.drop_zero, Nat.sub_zero, List.map_take]
  by_cases h : k ≤ (ns.map V.int).length
  · rw [Nat.min_eq_left h]
  · rw [Nat.min_eq_right (by omega), List.take_length, List.take_of_length_le (by omega)]
theorem int_of_map {ns : List Int} {i : Nat} {y : V} (hi : (ns.map V.int)[i]? = some y) : ∃ u, y = V.int u := by
  rw [List.getElem?_map] at hi
  cases e : ns[i]? with
  | none => rw [e] at hi; cases hi
  | some u => rw [e] at hi; exact ⟨u, (Option.some.inj hi).symm⟩
theorem mem_at {α : Type} {xs : List α} {d : Int} (h0 : 0 ≤ d) (h1 : d < xs.length) : ∃ v, atI xs d = some v ∧ v ∈ xs := by
  obtain ⟨j, rfl⟩ : ∃ j : Nat, d = (j : Int) := ⟨d.toNat, by omega⟩
  have hj : j < xs.length := by omega
  exact ⟨xs[j], atI_nat (List.getElem?_eq_getElem hj), List.getElem_mem hj⟩

section
variable {P : Program} {w : World} {K : PySem.W.Frag} {mg : Str → Option Value} {base : Heap} {Z : Fs}
/-! ### _law_bag -/
def sp_law_bag (K : PySem.W.Frag) : Sp := fun vs H Q _ => ∃ (a : Addr) (ns : List Int), vs = [.ref a] ∧ SqL K H a (ns.map V.int) ∧ ns.length ≤ 63 ∧ ∀ (H' : Hp) (b l : Addr), Same H H' → H b = none → H l = none → Bag H' b l → Q (.ref b) H'
theorem ok_law_bag (T : Txt K w mg Z) : FnOk P w K mg base CX0 1 Z.a_law_bag Z.d_law_bag ["_law_script"] (sp_law_bag K) := by
  refine T.F_law_bag.ok sc_law_bag (fun vs H Q E h => ?_) (fun cdv A outer s H vs Q E hr h => ?_)
  · obtain ⟨a, ns, rfl, _⟩ := h
    rfl
  · obtain ⟨a, ns, rfl, hS, hlen, k⟩ := h
    refine ⟨_, (pss_cons (ps_set (i := 1) sc_law_bag.nd rfl (Or.inl rfl) pe_int)
      (pss_cons (ps_for PassesOwn.never rfl (pi_list (pe_slice sl_list (pv 0) po_none (po_some pe_int))) (pg_name (i := 2) sc_law_bag.nd rfl (Or.inl rfl)) (pss_one (ps_set (i := 1) sc_law_bag.nd rfl (Or.inl rfl) (pe_op op_mod (pe_callTy call_int1 (by rfl) T.n_int boot_int (pa_cons (pe_op op_add (pe_op op_add (pe_op op_mul (pv 1) pe_int) (pe_op op_mul (pe_op op_mod (pe_callTy call_int1 (by rfl) T.n_int boot_int (pa_cons (pv 2) pa_nil)) pe_int) pe_int)) pe_int) pa_nil)) pe_int))))
      (pss_one (ps_ret (pe_lst (pa_cons (pe_callTy call_list_of (by rfl) T.n_list boot_list (pa_cons (pe_slice sl_list (pv 0) po_none (po_some pe_int)) pa_nil)) (pa_cons pe_int (pa_cons pe_int (pa_cons (pv 1) (pa_cons pe_int pa_nil)))))))))), ?_⟩
    refine ⟨.ref a, rfl, 63, rfl, a, ns.map V.int, rfl, hS, fun p hp => ?_⟩
    have s1 : Same H (upd H p (.lst (cutV (ns.map V.int) none (some 63)))) := Same.new hp
    have ec : cutV (ns.map V.int) none (some 63) = (ns.take 63).map V.int := cut_ints ns 63
    refine ⟨p, rfl, ⟨_, SqL.of upd_same⟩, for_list (K := K) (a := p) (xs := cutV (ns.map V.int) none (some 63)) (fun i σ H' => ∃ (m : Int) (v : Option V), σ = [some (.ref a), some (.int m), v] ∧ Same (upd H p (.lst (cutV (ns.map V.int) none (some 63)))) H' ∧ 0 ≤ m ∧ m < 2147483579)
      ⟨12026, none, rfl, Same.refl _, by decide, by decide⟩ (fun i σ H' _ ⟨_, _, _, s2, _⟩ => SqL.of (s2 _ _ upd_same)) ?_ ?_⟩
    · rintro i y σ H' hi ⟨m, v, rfl, s2, h0, h1⟩
      rw [ec] at hi
      obtain ⟨u, rfl⟩ := int_of_map hi
      refine ⟨_, rfl, _, _, rfl, rfl, .inr ⟨by decide, by decide⟩, _, rfl, .inl ⟨_, rfl, _, _, rfl, rfl, (by show (0 : Int) < 1000639; decide), _, _, rfl, rfl, .inr ⟨by decide, by decide⟩, _, _, rfl, rfl, _, _, rfl, rfl, .inl ⟨_, rfl, _, _, rfl, rfl, (by show (0 : Int) < 2147483579; decide), ?_⟩⟩⟩
      exact ⟨_, _, rfl, s2, Int.emod_nonneg _ (by decide), Int.emod_lt_of_pos _ (by decide)⟩
    · rintro σ H' ⟨m, v, rfl, s2, h0, h1⟩
      refine ⟨.ref a, rfl, 63, rfl, a, ns.map V.int, rfl, (s1.trans s2).seq hS, fun q hq => ⟨q, _, rfl, .inl (SqL.of upd_same), fun l hl => ⟨_, rfl, (by show 5 ≤ sizeLine; decide), fun b hb => ?_⟩⟩⟩
      have nlb : l ≠ b := fun e => by
        rw [← e, upd_same] at hb
        cases hb
      have s3 := ((s1.trans s2).trans (Same.new (o := .lst (cutV (ns.map V.int) none (some 63))) hq)).trans (Same.new (o := .lst (cutV (ns.map V.int) none (some 63))) hl)
      refine k _ b l (s3.trans (Same.new hb)) (s3.free hb) (((s1.trans s2).trans (Same.new (o := .lst (cutV (ns.map V.int) none (some 63))) hq)).free hl) ⟨ns.take 63, 0, 0, m, 0, upd_same, ?_, nlb, ?_, by decide, h0, by omega⟩
      · rw [upd_ne nlb, upd_same, ec]
      · rw [List.length_take]
        omega
end

section
variable {P : Program} {w : World} {K : PySem.W.Frag} {mg : Str → Option Value} {base : Heap} {Z : Fs}
/-! ### _law_draw -/
def sp_law_draw : Sp := fun vs H Q _ => ∃ (b l : Addr) (d : Int), vs = [.ref b, .int d] ∧ Bag H b l ∧ 0 < d ∧ d < 1073741824 ∧ ∀ (H' : Hp) (v : Int), Stp b H H' → Bag H' b l → 0 ≤ v → v < d → Q (.int v) H'
theorem ok_law_draw (T : Txt K w mg Z) : FnOk P w K mg base CX0 1 Z.a_law_draw Z.d_law_draw ["_law_bag_here", "_law_sides"] sp_law_draw := by
  refine T.F_law_draw.ok sc_law_draw (fun vs H Q E h => ?_) (fun cdv A outer s H vs Q E hr h => ?_)
  · obtain ⟨b, l, d, rfl, _⟩ := h
    rfl
  · obtain ⟨b, l, d, rfl, ⟨ns, i, r, m, n, hb, hl, nlb, hlen, r0, m0, m1⟩, d0, d1, k⟩ := h
    refine ⟨_, (pss_cons (ps_asg (pe_op op_add (pe_ix ix_list (pv 0) pe_int (fun _ _ => rfl)) pe_int) (pg_sub (pv 0) pe_int set_list))
      (C8.pss_cut (ps_if (PW.pt (pw_and (pt_cmpR op_eq (pe_ix ix_list (pv 0) pe_int (fun _ _ => rfl)) pe_int (nomark _)) (pw_and1 (pt_cmpR op_lt (pe_ix ix_list (pv 0) pe_int (fun _ _ => rfl)) (pe_callB call_len (by rfl) T.n_len boot_len (pa_cons (pe_ix ix_list (pv 0) pe_int (fun _ _ => rfl)) pa_nil)) (nomark _))))) (pss_cons (ps_set (i := 2) sc_law_draw.nd rfl (Or.inl rfl) (pe_callTy call_int1 (by rfl) T.n_int boot_int (pa_cons (pe_ix ix_list (pe_ix ix_list (pv 0) pe_int (fun _ _ => rfl)) (pe_ix ix_list (pv 0) pe_int (fun _ _ => rfl)) (fun _ _ => rfl)) pa_nil)))
      (pss_cons (ps_asg (pe_op op_add (pe_ix ix_list (pv 0) pe_int (fun _ _ => rfl)) pe_int) (pg_sub (pv 0) pe_int set_list))
      (pss_one (ps_if (pt_cmpR op_ge (pe_callB call_abs (by rfl) T.n_abs boot_abs (pa_cons (pv 2) pa_nil)) (pe_op op_pow pe_int pe_int) (nomark _)) (pss_one (ps_asg (pe_callB call_abs (by rfl) T.n_abs boot_abs (pa_cons (pv 2) pa_nil)) (pg_sub (pv 0) pe_int set_list))) (pss_one (ps_asg (pe_op op_mod (pe_callTy call_int1 (by rfl) T.n_int boot_int (pa_cons (pe_op op_add (pe_op op_add (pe_op op_mul (pe_ix ix_list (pv 0) pe_int (fun _ _ => rfl)) pe_int) (pe_op op_mul (pe_op op_mod (pe_callTy call_int1 (by rfl) T.n_int boot_int (pa_cons (pv 2) pa_nil)) pe_int) pe_int)) pe_int) pa_nil)) pe_int) (pg_sub (pv 0) pe_int set_list))))))) pss_nil)
      (pss_cons (ps_if (pt_cmpR op_gt (pe_ix ix_list (pv 0) pe_int (fun _ _ => rfl)) pe_int (nomark _)) (pss_cons (ps_set (i := 3) sc_law_draw.nd rfl (Or.inl rfl) (pe_op op_mod (pe_callTy call_int1 (by rfl) T.n_int boot_int (pa_cons (pe_ix ix_list (pv 0) pe_int (fun _ _ => rfl)) pa_nil)) (pv 1)))
      (pss_cons (ps_asg (pe_op op_fdiv (pe_ix ix_list (pv 0) pe_int (fun _ _ => rfl)) (pv 1)) (pg_sub (pv 0) pe_int set_list))
      (pss_one (ps_ret (pv 3))))) pss_nil)
      (pss_cons (ps_set (i := 4) sc_law_draw.nd rfl (Or.inl rfl) (pe_callTy call_int1 (by rfl) T.n_int boot_int (pa_cons (pe_ix ix_list (pv 0) pe_int (fun _ _ => rfl)) pa_nil)))
      (pss_cons (ps_asg (pe_op op_mod (pe_callTy call_int1 (by rfl) T.n_int boot_int (pa_cons (pe_op op_add (pe_op op_add (pe_op op_add (pe_op op_mul (pe_op op_mul (pv 4) (pv 4)) pe_int) (pe_op op_mul (pv 4) pe_int)) (pe_op op_mul (pe_ix ix_list (pv 0) pe_int (fun _ _ => rfl)) pe_int)) pe_int) pa_nil)) pe_int) (pg_sub (pv 0) pe_int set_list))
      (pss_one (ps_ret (pe_op op_mod (pe_callTy call_int1 (by rfl) T.n_int boot_int (pa_cons (pe_op op_add (pe_op op_fdiv (pe_ix ix_list (pv 0) pe_int (fun _ _ => rfl)) pe_int) (pe_op op_mul (pe_op op_mod (pe_callTy call_int1 (by rfl) T.n_int boot_int (pa_cons (pe_ix ix_list (pv 0) pe_int (fun _ _ => rfl)) pa_nil)) pe_int) pe_int)) pa_nil)) (pv 1))))))))), ?_⟩
    -- bag[4] = bag[4] + 1
    refine ⟨.ref b, rfl, b, _, 4, .int n, rfl, rfl, SqL.of hb, atI_nat (j := 4) rfl, n, 1, rfl, rfl, .ref b, rfl, b, _, 4, 4, rfl, rfl, hb, rfl, ?_⟩
    refine ⟨fun σ' H' => ∃ (y2 : Option V), σ' = [some (.ref b), some (.int d), y2, none, none] ∧ Stp b H H' ∧ Bag H' b l, ?_, ?_⟩
    · have hb1 : (upd H b (.lst ([V.ref l, .int i, .int r, .int m, .int n].set 4 (.int (n + 1))))) b = some (.lst [.ref l, .int i, .int r, .int m, .int (n + 1)]) := upd_same
      have hl1 : (upd H b (.lst ([V.ref l, .int i, .int r, .int m, .int n].set 4 (.int (n + 1))))) l = some (.lst (ns.map V.int)) := by
        rw [upd_ne nlb]
        exact hl
      have s1 : Stp b H (upd H b (.lst ([V.ref l, .int i, .int r, .int m, .int n].set 4 (.int (n + 1))))) := Stp.put
      generalize upd H b (.lst ([V.ref l, .int i, .int r, .int m, .int n].set 4 (.int (n + 1)))) = H1 at hb1 hl1 s1 ⊢
      have B1 : Bag H1 b l := ⟨ns, i, r, m, n + 1, hb1, hl1, nlb, hlen, r0, m0, m1⟩
      -- if bag[2] == 0 and bag[1] < len(bag[0])
      refine ⟨.ref b, rfl, b, _, 2, .int r, rfl, rfl, SqL.of hb1, atI_nat (j := 2) rfl, rfl, _, rfl, ?_⟩
      refine ite2 (fun _ => ?_) (fun _ => ?_)
      · refine ⟨.ref b, rfl, b, _, 1, .int i, rfl, rfl, SqL.of hb1, atI_nat (j := 1) rfl, .ref b, rfl, b, _, 0, .ref l, rfl, rfl, SqL.of hb1, atI_nat (j := 0) rfl, .ref l, ns.length, rfl, .inl ⟨_, SqL.of hl1, by rw [List.length_map]⟩, _, _, rfl, rfl, _, rfl, ?_⟩
        refine ite2 (fun hi => ?_) (fun _ => ?_)
        · have hi' : i < ns.length := by
            have q := of_decide_eq_true hi
            omega
          have gi : atI (ns.map V.int) (i : Int) = some (.int ns[i]) := atI_nat (by rw [List.getElem?_map, List.getElem?_eq_getElem hi']; rfl)
          -- piled = int(bag[0][bag[1]])
          refine ⟨.ref b, rfl, b, _, 0, .ref l, rfl, rfl, SqL.of hb1, atI_nat (j := 0) rfl, .ref b, rfl, b, _, 1, .int i, rfl, rfl, SqL.of hb1, atI_nat (j := 1) rfl, l, _, _, _, rfl, rfl, SqL.of hl1, gi, .inl ⟨_, rfl, ?_⟩⟩
          -- bag[1] = bag[1] + 1
          refine ⟨.ref b, rfl, b, _, 1, .int i, rfl, rfl, SqL.of hb1, atI_nat (j := 1) rfl, i, 1, rfl, rfl, .ref b, rfl, b, _, 1, 1, rfl, rfl, hb1, rfl, ?_⟩
          have hb2 : (upd H1 b (.lst ([V.ref l, .int i, .int r, .int m, .int (n + 1)].set 1 (.int (i + 1))))) b = some (.lst [.ref l, .int ((i + 1 : Nat) : Int), .int r, .int m, .int (n + 1)]) := upd_same
          have hl2 : (upd H1 b (.lst ([V.ref l, .int i, .int r, .int m, .int (n + 1)].set 1 (.int (i + 1))))) l = some (.lst (ns.map V.int)) := by
            rw [upd_ne nlb]
            exact hl1
          have s2 : Stp b H (upd H1 b (.lst ([V.ref l, .int i, .int r, .int m, .int (n + 1)].set 1 (.int (i + 1))))) := s1.trans Stp.put
          generalize upd H1 b (.lst ([V.ref l, .int i, .int r, .int m, .int (n + 1)].set 1 (.int (i + 1)))) = H2 at hb2 hl2 s2 ⊢
          -- if abs(piled) >= 10 ** 18
          refine ⟨.int ns[i], rfl, _, rfl, 10, 18, rfl, rfl, ⟨by decide, by decide, by decide⟩, _, _, rfl, rfl, _, rfl, ?_⟩
          refine ite2 (fun _ => ?_) (fun _ => ?_)
          · refine ⟨.int ns[i], rfl, _, rfl, .ref b, rfl, b, _, 2, 2, rfl, rfl, hb2, rfl, ?_⟩
            refine ⟨_, rfl, s2.trans Stp.put, ns, i + 1, _, m, n + 1, upd_same, ?_, nlb, hlen, ?_, m0, m1⟩
            · rw [upd_ne nlb]
              exact hl2
            · show 0 ≤ (if ns[i] < 0 then -ns[i] else ns[i])
              split <;> omega
          · refine ⟨.ref b, rfl, b, _, 3, .int m, rfl, rfl, SqL.of hb2, atI_nat (j := 3) rfl, _, _, rfl, rfl, .inr ⟨by decide, by decide⟩, .int ns[i], rfl, .inl ⟨_, rfl, _, _, rfl, rfl, (by show (0 : Int) < 1000639; decide), _, _, rfl, rfl, .inr ⟨by decide, by decide⟩, _, _, rfl, rfl, _, _, rfl, rfl, .inl ⟨_, rfl, _, _, rfl, rfl, (by show (0 : Int) < 2147483587; decide), .ref b, rfl, b, _, 3, 3, rfl, rfl, hb2, rfl, ?_⟩⟩⟩
            refine ⟨_, rfl, s2.trans Stp.put, ns, i + 1, r, _, n + 1, upd_same, ?_, nlb, hlen, r0, Int.emod_nonneg _ (by decide), Int.lt_trans (Int.emod_lt_of_pos _ (by decide)) (by decide)⟩
            rw [upd_ne nlb]
            exact hl2
        · exact ⟨_, rfl, s1, B1⟩
      · exact ⟨_, rfl, s1, B1⟩
    · rintro σ' H1 ⟨y2, rfl, s1, ns, i, r, m, n, hb1, hl1, nlb, hlen, r0, m0, m1⟩
      -- if bag[2] > 0
      refine ⟨.ref b, rfl, b, _, 2, .int r, rfl, rfl, SqL.of hb1, atI_nat (j := 2) rfl, _, _, rfl, rfl, _, rfl, ?_⟩
      refine ite2 (fun _ => ?_) (fun _ => ?_)
      · refine ⟨.ref b, rfl, b, _, 2, .int r, rfl, rfl, SqL.of hb1, atI_nat (j := 2) rfl, .inl ⟨_, rfl, .int d, rfl, _, _, rfl, rfl, d0, ?_⟩⟩
        refine ⟨.ref b, rfl, b, _, 2, .int r, rfl, rfl, SqL.of hb1, atI_nat (j := 2) rfl, .int d, rfl, _, _, rfl, rfl, ⟨d0, d1⟩, .ref b, rfl, b, _, 2, 2, rfl, rfl, hb1, rfl, ?_⟩
        refine ⟨_, rfl, k _ _ (s1.trans Stp.put) ⟨ns, i, _, m, n, upd_same, ?_, nlb, hlen, Int.ediv_nonneg r0 (Int.le_of_lt d0), m0, m1⟩ (Int.emod_nonneg _ (by omega)) (Int.emod_lt_of_pos _ d0)⟩
        rw [upd_ne nlb]
        exact hl1
      · -- seed
        refine ⟨.ref b, rfl, b, _, 3, .int m, rfl, rfl, SqL.of hb1, atI_nat (j := 3) rfl, .inl ⟨_, rfl, ?_⟩⟩
        refine ⟨.int m, rfl, .int m, rfl, _, _, rfl, rfl, .inl ⟨by omega, by omega⟩, _, _, rfl, rfl, .inr ⟨by decide, by decide⟩, .int m, rfl, _, _, rfl, rfl, .inr ⟨by decide, by decide⟩, _, _, rfl, rfl,
          .ref b, rfl, b, _, 4, .int n, rfl, rfl, SqL.of hb1, atI_nat (j := 4) rfl, _, _, rfl, rfl, .inr ⟨by decide, by decide⟩, _, _, rfl, rfl, _, _, rfl, rfl, .inl ⟨_, rfl, _, _, rfl, rfl, (by show (0 : Int) < 2147483549; decide), .ref b, rfl, b, _, 3, 3, rfl, rfl, hb1, rfl, ?_⟩⟩
        have hm0 := Int.emod_nonneg (m * m * 19 + m * 47111 + n * 110323 + 60089) (show (2147483549 : Int) ≠ 0 by decide)
        have hm1 := Int.emod_lt_of_pos (m * m * 19 + m * 47111 + n * 110323 + 60089) (show (0 : Int) < 2147483549 by decide)
        have hb2 : (upd H1 b (.lst ([V.ref l, .int i, .int r, .int m, .int n].set 3 (.int ((m * m * 19 + m * 47111 + n * 110323 + 60089) % 2147483549))))) b = some (.lst [.ref l, .int i, .int r, .int ((m * m * 19 + m * 47111 + n * 110323 + 60089) % 2147483549), .int n]) := upd_same
        have hl2 : (upd H1 b (.lst ([V.ref l, .int i, .int r, .int m, .int n].set 3 (.int ((m * m * 19 + m * 47111 + n * 110323 + 60089) % 2147483549))))) l = some (.lst (ns.map V.int)) := by
          rw [upd_ne nlb]
          exact hl1
        have s2 : Stp b H (upd H1 b (.lst ([V.ref l, .int i, .int r, .int m, .int n].set 3 (.int ((m * m * 19 + m * 47111 + n * 110323 + 60089) % 2147483549))))) := s1.trans Stp.put
        generalize upd H1 b (.lst ([V.ref l, .int i, .int r, .int m, .int n].set 3 (.int ((m * m * 19 + m * 47111 + n * 110323 + 60089) % 2147483549)))) = H2 at hb2 hl2 s2 ⊢
        generalize (m * m * 19 + m * 47111 + n * 110323 + 60089) % 2147483549 = m2 at hb2 hm0 hm1 ⊢
        refine ⟨.ref b, rfl, b, _, 3, .int m2, rfl, rfl, SqL.of hb2, atI_nat (j := 3) rfl, _, _, rfl, rfl, ⟨by decide, by decide⟩, .ref b, rfl, b, _, 3, .int m2, rfl, rfl, SqL.of hb2, atI_nat (j := 3) rfl, .inl ⟨_, rfl, _, _, rfl, rfl, (by show (0 : Int) < 8017; decide), _, _, rfl, rfl, .inr ⟨by decide, by decide⟩, _, _, rfl, rfl, .inl ⟨_, rfl, .int d, rfl, _, _, rfl, rfl, d0, ?_⟩⟩⟩
        exact k _ _ s2 ⟨ns, i, r, m2, n, hb2, hl2, nlb, hlen, r0, hm0, by omega⟩ (Int.emod_nonneg _ (by omega)) (Int.emod_lt_of_pos _ d0)
/-! ### _law_of -/
/-- what is drawn from: a text, or a list that is not the bag; P what holds of each thing -/
def Thg (K : PySem.W.Frag) (H : Hp) (b : Addr) (t : V) (Pt : V → Prop) : Prop := (∃ z : Str, t = .str z ∧ 0 < z.cps.size ∧ z.cps.size ≤ 100000 ∧ ∀ c ∈ z.cps.toList, Pt (.str ⟨#[c]⟩)) ∨ ∃ (a : Addr) (xs : List V), t = .ref a ∧ a ≠ b ∧ SqL K H a xs ∧ 0 < xs.length ∧ xs.length ≤ 100000 ∧ ∀ v ∈ xs, Pt v
def sp_law_of (K : PySem.W.Frag) : Sp := fun vs H Q _ => ∃ (b l : Addr) (t : V) (Pt : V → Prop), vs = [.ref b, t] ∧ Bag H b l ∧ Thg K H b t Pt ∧ ∀ (H' : Hp) (v : V), Stp b H H' → Bag H' b l → Pt v → Q v H'
theorem ok_law_of (T : Txt K w mg Z) : FnOk P w K mg base CX0 2 Z.a_law_of Z.d_law_of ["_law_bag_here", "_law_things"] (sp_law_of K) := by
  have G_law_draw : FnOk P w K mg base CX0 1 Z.a_law_draw Z.d_law_draw ["_law_bag_here", "_law_sides"] sp_law_draw := ok_law_draw T
  refine T.F_law_of.ok sc_law_of (fun vs H Q E h => ?_) (fun cdv A outer s H vs Q E hr h => ?_)
  · obtain ⟨b, l, t, Pt, rfl, _⟩ := h
    rfl
  · obtain ⟨b, l, t, Pt, rfl, B, ht, k⟩ := h
    refine ⟨_, (pss_one (ps_ret (pe_ix ix_seq (pv 1) (pe_call G_law_draw (hr.mono (by omega)) (by rfl) T.m_law_draw T.F_law_draw.kp T.b_law_draw .nil pass0 (pa_cons (pv 0) (pa_cons (pe_callB call_len (by rfl) T.n_len boot_len (pa_cons (pv 1) pa_nil)) pa_nil))) (fun _ _ => rfl)))), ?_⟩
    rcases ht with ⟨z, rfl, z0, z1, hz⟩ | ⟨a, xs, rfl, nab, hx, x0, x1, hv⟩
    · refine ⟨_, rfl, .ref b, rfl, .str z, rfl, .str z, z.cps.size, rfl, ⟨Nat.le_trans z1 (by decide), rfl⟩, b, l, _, rfl, B, by omega, by omega, fun H' v s1 B1 v0 v1 => ?_⟩
      obtain ⟨c, hc, hm⟩ := mem_at (xs := z.cps.toList) v0 (by simpa using v1)
      exact .inr (.inr ⟨z, v, c, rfl, rfl, Nat.le_trans z1 (by decide), hc, k _ _ s1 B1 (hz c hm)⟩)
    · refine ⟨_, rfl, .ref b, rfl, .ref a, rfl, .ref a, xs.length, rfl, .inl ⟨_, hx, rfl⟩, b, l, _, rfl, B, by omega, by omega, fun H' v s1 B1 v0 v1 => ?_⟩
      obtain ⟨c, hc, hm⟩ := mem_at (xs := xs) v0 v1
      exact .inl ⟨a, xs, v, c, rfl, rfl, s1.sqL nab hx, hc, k _ _ s1 B1 (hv c hm)⟩
end

theorem iteN {p A B : Prop} [Decidable p] (h : ¬ p) (q : B) : if decide p = true then A else B := by
  rw [decide_eq_false h]
  exact iteF q
theorem iteY {p A B : Prop} [Decidable p] (h : p) (q : A) : if decide p = true then A else B := by
  rw [decide_eq_true h]
  exact iteT q
theorem Same.put {H H' : Hp} {p : Addr} {o : HO} (s : Same H H') (h : H p = none) : Same H (upd H' p o) := fun a u e => by
  rw [upd_ne (ne_of_none e h)]
  exact s a u e
theorem Same.sqT {K : PySem.W.Frag} {H H' : Hp} {a : Addr} {xs : List V} (e : Same H H') (h : SqT K H a xs) : SqT K H' a xs := by
  rcases h with (h | ⟨o, h⟩) | h
  · exact .inl (.inl (e _ _ h))
  · exact .inl (.inr ⟨o, e _ _ h⟩)
  · exact .inr h
theorem tyx_l {K : PySem.W.Frag} {H : Hp} {a : Addr} {xs : List V} (h : SqL K H a xs) : TyX K H (.ref a) (.type "list") := by
  rcases h with (h | ⟨o, h⟩) | ⟨o, its, n, h, hc, _⟩
  · exact .base (.lst h)
  · exact .base (.frz h)
  · exact .kList h hc
theorem tyx_t {K : PySem.W.Frag} {H : Hp} {a : Addr} {xs : List V} (h : SqT K H a xs) : TyX K H (.ref a) (.type "tuple") := by
  rcases h with (h | ⟨o, h⟩) | ⟨o, its, n, h, hc, _⟩
  · exact .base (.tup h)
  · exact .fTuple h
  · exact .kTuple h hc
/-- the name of a flat value's type -/
def flatT : V → String
  | .bl _ => "bool"
  | .int _ => "int"
  | .str _ => "str"
  | _ => "NoneType"
theorem tyx_f {K : PySem.W.Frag} {H : Hp} {x : V} (h : flatV x = true) : TyX K H x (.type (flatT x)) := by
  cases x with
  | non => exact .base .non
  | bl b => exact .base (.bl b)
  | int i => exact .base (.int i)
  | str z => exact .base (.str z)
  | _ => cases h
theorem walk_zipT {K : PySem.W.Frag} {a b : Addr} {xs ys : List V} {n : Nat} (hn : n = min xs.length ys.length) : Walk (RZ.ItzT K a b) n (fun H => SqT K H a xs ∧ SqT K H b ys) (YPair (fun i => xs[i]?) (fun i => ys[i]?)) := by
  subst hn
  refine ⟨fun i _ hi q => ?_, fun _ q => ⟨xs, ys, q.1, q.2, by omega⟩, fun i H v H' _ q y => ?_⟩
  · have h1 : i < xs.length := by omega
    have h2 : i < ys.length := by omega
    exact ⟨xs, ys, xs[i], ys[i], q.1, q.2, by simp [h1], by simp [h2]⟩
  · obtain ⟨T, x, z, h1, h2, h3, h4, h5⟩ := y
    exact ⟨T, x, z, h1, h2, h3, h4 xs q.1, h5 ys q.2⟩
theorem all_rep (n : Nat) : (List.replicate n true).all id = true := by
  rw [List.all_eq_true]
  intro x hx
  rw [(List.mem_replicate.mp hx).2]
  rfl
/-- two values that are the same data, n deep at most -/
def Eqd (K : PySem.W.Frag) (H : Hp) : Nat → V → V → Prop
  | 0, x, y => flatV x = true ∧ x = y
  | n + 1, x, y => (flatV x = true ∧ x = y) ∨ ∃ (a b : Addr) (xs ys : List V), x = .ref a ∧ y = .ref b ∧ ((SqL K H a xs ∧ SqL K H b ys) ∨ (SqT K H a xs ∧ SqT K H b ys)) ∧ xs.length = ys.length ∧ xs.length ≤ 100000 ∧ ∀ (i : Nat) (u v : V), xs[i]? = some u → ys[i]? = some v → Eqd K H n u v
theorem Eqd.same {K : PySem.W.Frag} {H H' : Hp} (s : Same H H') : ∀ {n : Nat} {x y : V}, Eqd K H n x y → Eqd K H' n x y
  | 0, _, _, h => h
  | n + 1, _, _, .inl h => .inl h
  | n + 1, _, _, .inr ⟨a, b, xs, ys, e1, e2, h, hl, hz, hi⟩ => .inr ⟨a, b, xs, ys, e1, e2, by
      rcases h with ⟨h1, h2⟩ | ⟨h1, h2⟩
      · exact .inl ⟨s.seq h1, s.seq h2⟩
      · exact .inr ⟨Same.sqT s h1, Same.sqT s h2⟩, hl, hz, fun i u v hu hv => (hi i u v hu hv).same s⟩
theorem Eqd.flat {K : PySem.W.Frag} {H : Hp} {n : Nat} {x : V} (h : flatV x = true) : Eqd K H n x x := by
  cases n with
  | zero => exact ⟨h, rfl⟩
  | succ n => exact .inl ⟨h, rfl⟩
theorem kitLT {K : PySem.W.Frag} {T : String} (h1 : kitB T "list" = some false) (h2 : kitB T "tuple" = some false) : PySem.W.kitAny K (.type T) [.type "list", .type "tuple"] = some false :=
  kitAny_cons (b := false) (kit_ty h1) (fun _ => kitAny_cons (b := false) (kit_ty h2) (fun _ => kitAny_nil) fun e => nomatch e) fun e => nomatch e
theorem kitLl {K : PySem.W.Frag} : PySem.W.kitAny K (.type "list") [.type "list", .type "tuple"] = some true :=
  kitAny_cons (b := true) (kit_ty (by decide +kernel)) (fun e => nomatch e) fun _ => rfl
theorem kitLt {K : PySem.W.Frag} : PySem.W.kitAny K (.type "tuple") [.type "list", .type "tuple"] = some true :=
  kitAny_cons (b := false) (kit_ty (by decide +kernel)) (fun _ => kitAny_cons (b := true) (kit_ty (by decide +kernel)) (fun e => nomatch e) fun _ => rfl) fun e => nomatch e

section
variable {P : Program} {w : World} {K : PySem.W.Frag} {mg : Str → Option Value} {base : Heap} {Z : Fs}
/-! ### _law_same -/
def sp_law_same (K : PySem.W.Frag) (n : Nat) : Sp := fun vs H Q _ => ∃ x y : V, vs = [x, y] ∧ Eqd K H n x y ∧ ∀ H' : Hp, Same H H' → Q (.bl true) H'
theorem ok_law_same (T : Txt K w mg Z) : ∀ n : Nat, FnOk P w K mg base CX0 (n + 1) Z.a_law_same Z.d_law_same ["_law_found", "_law_due"] (sp_law_same K n)
  | 0 => by
    refine T.F_law_same.ok sc_law_same (fun vs H Q E h => ?_) (fun cdv A outer s H vs Q E hr h => ?_)
    · obtain ⟨x, y, rfl, _⟩ := h
      rfl
    · obtain ⟨x, y, rfl, ⟨hf, rfl⟩, k⟩ := h
      refine ⟨_, (pss_cons (ps_if (PW.pt (pw_or (pt_cmp (pc_isN (pv 1))) (pw_or1 (pt_cmp (pc_isN (pv 0)))))) (pss_one (ps_ret (pe_and (pe_cmp (pc_isN (pv 1)) rfl) (pe_one (pe_cmp (pc_isN (pv 0)) rfl))))) pss_nil)
      (pss_cons (ps_if (pt_val (pe_callB call_isiT (by rfl) T.n_isinstance boot_isinstance (pa_cons (pv 1) (pa_cons (pe_tup (pa_cons (pe_bltn (v := .ty "list") (by rfl) T.n_list boot_list rfl) (pa_cons (pe_bltn (v := .ty "tuple") (by rfl) T.n_tuple boot_tuple rfl) pa_nil))) pa_nil)))) pss_never pss_nil)
      (pss_cons (ps_if (PW.pt (pw_or (pt_cmpR op_ne (pe_callB call_isi (by rfl) T.n_isinstance boot_isinstance (pa_cons (pv 1) (pa_cons (pe_bltn (v := .ty "bool") (by rfl) T.n_bool boot_bool rfl) pa_nil))) (pe_callB call_isi (by rfl) T.n_isinstance boot_isinstance (pa_cons (pv 0) (pa_cons (pe_bltn (v := .ty "bool") (by rfl) T.n_bool boot_bool rfl) pa_nil))) (nomark _)) (pw_or1 (pt_cmpR op_ne (pe_callB call_isi (by rfl) T.n_isinstance boot_isinstance (pa_cons (pv 1) (pa_cons (pe_bltn (v := .ty "int") (by rfl) T.n_int boot_int rfl) pa_nil))) (pe_callB call_isi (by rfl) T.n_isinstance boot_isinstance (pa_cons (pv 0) (pa_cons (pe_bltn (v := .ty "int") (by rfl) T.n_int boot_int rfl) pa_nil))) (nomark _))))) (pss_one (ps_ret pe_bl)) pss_nil)
      (pss_one (ps_ret (pe_and (pe_cmpR op_eq (pe_callB call_isi (by rfl) T.n_isinstance boot_isinstance (pa_cons (pv 1) (pa_cons (pe_bltn (v := .ty "str") (by rfl) T.n_str boot_str rfl) pa_nil))) (pe_callB call_isi (by rfl) T.n_isinstance boot_isinstance (pa_cons (pv 0) (pa_cons (pe_bltn (v := .ty "str") (by rfl) T.n_str boot_str rfl) pa_nil))) (nomark _)) (pe_one (pe_cmpR op_eq (pv 0) (pv 1) (nomark _))))))))), ?_⟩
      cases x with
      | non => exact ⟨.non, rfl, _, rfl, iteY rfl ⟨.non, rfl, _, rfl, iteY rfl ⟨.non, rfl, k _ (Same.refl _)⟩⟩⟩
      | bl v =>
        refine ⟨.bl v, rfl, _, rfl, iteN (fun e => nomatch e) ⟨.bl v, rfl, _, rfl, iteN (fun e => nomatch e) ?_⟩⟩
        refine ⟨.bl v, rfl, (by show 2 ≤ sizeLine; decide), fun p hp => ⟨.bl v, p, _, _, _, false, rfl, upd_same, .cons (.ty _) (.cons (.ty _) .nil), .base (.bl v), kitLT (by decide +kernel) (by decide +kernel), _, rfl, iteF ?_⟩⟩
        refine ⟨.bl v, rfl, .bl v, .ty "bool", _, _, true, rfl, .ty _, .base (.bl v), kit_ty (by decide +kernel), .bl v, rfl, .bl v, .ty "bool", _, _, true, rfl, .ty _, .base (.bl v), kit_ty (by decide +kernel), rfl, _, rfl, iteNS rfl ?_⟩
        refine ⟨.bl v, rfl, .bl v, .ty "int", _, _, true, rfl, .ty _, .base (.bl v), kit_ty (by decide +kernel), .bl v, rfl, .bl v, .ty "int", _, _, true, rfl, .ty _, .base (.bl v), kit_ty (by decide +kernel), rfl, _, rfl, iteNS rfl ?_⟩
        refine ⟨.bl v, rfl, .bl v, .ty "str", _, _, false, rfl, .ty _, .base (.bl v), kit_ty (by decide +kernel), .bl v, rfl, .bl v, .ty "str", _, _, false, rfl, .ty _, .base (.bl v), kit_ty (by decide +kernel), rfl, _, rfl, iteY rfl ?_⟩
        refine ⟨.bl v, rfl, .bl v, rfl, rfl, ?_⟩
        show Q (.bl (decide (V.bl v = V.bl v))) _
        rw [decide_eq_true rfl]
        exact k _ (Same.new hp)
      | int v =>
        refine ⟨.int v, rfl, _, rfl, iteN (fun e => nomatch e) ⟨.int v, rfl, _, rfl, iteN (fun e => nomatch e) ?_⟩⟩
        refine ⟨.int v, rfl, (by show 2 ≤ sizeLine; decide), fun p hp => ⟨.int v, p, _, _, _, false, rfl, upd_same, .cons (.ty _) (.cons (.ty _) .nil), .base (.int v), kitLT (by decide +kernel) (by decide +kernel), _, rfl, iteF ?_⟩⟩
        refine ⟨.int v, rfl, .int v, .ty "bool", _, _, false, rfl, .ty _, .base (.int v), kit_ty (by decide +kernel), .int v, rfl, .int v, .ty "bool", _, _, false, rfl, .ty _, .base (.int v), kit_ty (by decide +kernel), rfl, _, rfl, iteNS rfl ?_⟩
        refine ⟨.int v, rfl, .int v, .ty "int", _, _, true, rfl, .ty _, .base (.int v), kit_ty (by decide +kernel), .int v, rfl, .int v, .ty "int", _, _, true, rfl, .ty _, .base (.int v), kit_ty (by decide +kernel), rfl, _, rfl, iteNS rfl ?_⟩
        refine ⟨.int v, rfl, .int v, .ty "str", _, _, false, rfl, .ty _, .base (.int v), kit_ty (by decide +kernel), .int v, rfl, .int v, .ty "str", _, _, false, rfl, .ty _, .base (.int v), kit_ty (by decide +kernel), rfl, _, rfl, iteY rfl ?_⟩
        refine ⟨.int v, rfl, .int v, rfl, rfl, ?_⟩
        show Q (.bl (decide (V.int v = V.int v))) _
        rw [decide_eq_true rfl]
        exact k _ (Same.new hp)
      | str v =>
        refine ⟨.str v, rfl, _, rfl, iteN (fun e => nomatch e) ⟨.str v, rfl, _, rfl, iteN (fun e => nomatch e) ?_⟩⟩
        refine ⟨.str v, rfl, (by show 2 ≤ sizeLine; decide), fun p hp => ⟨.str v, p, _, _, _, false, rfl, upd_same, .cons (.ty _) (.cons (.ty _) .nil), .base (.str v), kitLT (by decide +kernel) (by decide +kernel), _, rfl, iteF ?_⟩⟩
        refine ⟨.str v, rfl, .str v, .ty "bool", _, _, false, rfl, .ty _, .base (.str v), kit_ty (by decide +kernel), .str v, rfl, .str v, .ty "bool", _, _, false, rfl, .ty _, .base (.str v), kit_ty (by decide +kernel), rfl, _, rfl, iteNS rfl ?_⟩
        refine ⟨.str v, rfl, .str v, .ty "int", _, _, false, rfl, .ty _, .base (.str v), kit_ty (by decide +kernel), .str v, rfl, .str v, .ty "int", _, _, false, rfl, .ty _, .base (.str v), kit_ty (by decide +kernel), rfl, _, rfl, iteNS rfl ?_⟩
        refine ⟨.str v, rfl, .str v, .ty "str", _, _, true, rfl, .ty _, .base (.str v), kit_ty (by decide +kernel), .str v, rfl, .str v, .ty "str", _, _, true, rfl, .ty _, .base (.str v), kit_ty (by decide +kernel), rfl, _, rfl, iteY rfl ?_⟩
        refine ⟨.str v, rfl, .str v, rfl, rfl, ?_⟩
        show Q (.bl (decide (V.str v = V.str v))) _
        rw [decide_eq_true rfl]
        exact k _ (Same.new hp)
      | _ => cases hf
  | n + 1 => by
    have G_law_same : FnOk P w K mg base CX0 (n + 1) Z.a_law_same Z.d_law_same ["_law_found", "_law_due"] (sp_law_same K n) := ok_law_same T n
    refine T.F_law_same.ok sc_law_same (fun vs H Q E h => ?_) (fun cdv A outer s H vs Q E hr h => ?_)
    · obtain ⟨x, y, rfl, _⟩ := h
      rfl
    · obtain ⟨x, y, rfl, hd, k⟩ := h
      refine ⟨_, (pss_cons (ps_if (PW.pt (pw_or (pt_cmp (pc_isN (pv 1))) (pw_or1 (pt_cmp (pc_isN (pv 0)))))) (pss_one (ps_ret (pe_and (pe_cmp (pc_isN (pv 1)) rfl) (pe_one (pe_cmp (pc_isN (pv 0)) rfl))))) pss_nil)
      (pss_cons (ps_if (pt_val (pe_callB call_isiT (by rfl) T.n_isinstance boot_isinstance (pa_cons (pv 1) (pa_cons (pe_tup (pa_cons (pe_bltn (v := .ty "list") (by rfl) T.n_list boot_list rfl) (pa_cons (pe_bltn (v := .ty "tuple") (by rfl) T.n_tuple boot_tuple rfl) pa_nil))) pa_nil)))) (pss_cons (ps_if (PW.pt (pw_or (pt_cmpR op_ne (pe_callB call_isi (by rfl) T.n_isinstance boot_isinstance (pa_cons (pv 0) (pa_cons (pe_bltn (v := .ty "list") (by rfl) T.n_list boot_list rfl) pa_nil))) (pe_callB call_isi (by rfl) T.n_isinstance boot_isinstance (pa_cons (pv 1) (pa_cons (pe_bltn (v := .ty "list") (by rfl) T.n_list boot_list rfl) pa_nil))) (nomark _)) (pw_or1 (pt_cmpR op_ne (pe_callB call_isi (by rfl) T.n_isinstance boot_isinstance (pa_cons (pv 0) (pa_cons (pe_bltn (v := .ty "tuple") (by rfl) T.n_tuple boot_tuple rfl) pa_nil))) (pe_callB call_isi (by rfl) T.n_isinstance boot_isinstance (pa_cons (pv 1) (pa_cons (pe_bltn (v := .ty "tuple") (by rfl) T.n_tuple boot_tuple rfl) pa_nil))) (nomark _))))) (pss_one (ps_ret pe_bl)) pss_nil)
      (pss_one (ps_ret (pe_and (pe_cmpR op_eq (pe_callB call_len (by rfl) T.n_len boot_len (pa_cons (pv 0) pa_nil)) (pe_callB call_len (by rfl) T.n_len boot_len (pa_cons (pv 1) pa_nil)) (nomark _)) (pe_one (pe_callB (cr_all rfl) (by rfl) T.n_all boot_all (pa_cons (pe_lc (own := [("_law_a", 2), ("_law_b", 3)]) (g := gTup K 2 (gCons (gName 2) (gCons (gName 3) gNil))) (tt := tYes) rfl sc_law_same.nd (RZ.pi_zipA (by rfl) T.n_zip (pa_cons (pv 0) (pa_cons (pv 1) pa_nil))) (blkOk_by (N := N_law_same) (sc := defScope s_law_same) (by decide +kernel)) (fun _ _ _ _ _ => pg_tup rfl (pgs_cons (pg_name (i := 2) sc_law_same.nd rfl (Or.inl rfl)) (pgs_cons (pg_name (i := 3) sc_law_same.nd rfl (Or.inl rfl)) pgs_nil))) (fun _ _ _ _ _ => pts_nil) (fun _ _ _ _ _ => (pe_call G_law_same (hr.mono (by omega)) (by rfl) T.m_law_same T.F_law_same.kp T.b_law_same .nil pass0 (pa_cons (pv 2) (pa_cons (pv 3) pa_nil))))) pa_nil))))))) pss_nil)
      (pss_cons (ps_if (PW.pt (pw_or (pt_cmpR op_ne (pe_callB call_isi (by rfl) T.n_isinstance boot_isinstance (pa_cons (pv 1) (pa_cons (pe_bltn (v := .ty "bool") (by rfl) T.n_bool boot_bool rfl) pa_nil))) (pe_callB call_isi (by rfl) T.n_isinstance boot_isinstance (pa_cons (pv 0) (pa_cons (pe_bltn (v := .ty "bool") (by rfl) T.n_bool boot_bool rfl) pa_nil))) (nomark _)) (pw_or1 (pt_cmpR op_ne (pe_callB call_isi (by rfl) T.n_isinstance boot_isinstance (pa_cons (pv 1) (pa_cons (pe_bltn (v := .ty "int") (by rfl) T.n_int boot_int rfl) pa_nil))) (pe_callB call_isi (by rfl) T.n_isinstance boot_isinstance (pa_cons (pv 0) (pa_cons (pe_bltn (v := .ty "int") (by rfl) T.n_int boot_int rfl) pa_nil))) (nomark _))))) (pss_one (ps_ret pe_bl)) pss_nil)
      (pss_one (ps_ret (pe_and (pe_cmpR op_eq (pe_callB call_isi (by rfl) T.n_isinstance boot_isinstance (pa_cons (pv 1) (pa_cons (pe_bltn (v := .ty "str") (by rfl) T.n_str boot_str rfl) pa_nil))) (pe_callB call_isi (by rfl) T.n_isinstance boot_isinstance (pa_cons (pv 0) (pa_cons (pe_bltn (v := .ty "str") (by rfl) T.n_str boot_str rfl) pa_nil))) (nomark _)) (pe_one (pe_cmpR op_eq (pv 0) (pv 1) (nomark _))))))))), ?_⟩
      rcases hd with ⟨hf, rfl⟩ | ⟨a, b, xs, ys, rfl, rfl, hd, hl, hz, hi⟩
      · cases x with
        | non => exact ⟨.non, rfl, _, rfl, iteY rfl ⟨.non, rfl, _, rfl, iteY rfl ⟨.non, rfl, k _ (Same.refl _)⟩⟩⟩
        | bl v =>
          refine ⟨.bl v, rfl, _, rfl, iteN (fun e => nomatch e) ⟨.bl v, rfl, _, rfl, iteN (fun e => nomatch e) ?_⟩⟩
          refine ⟨.bl v, rfl, (by show 2 ≤ sizeLine; decide), fun p hp => ⟨.bl v, p, _, _, _, false, rfl, upd_same, .cons (.ty _) (.cons (.ty _) .nil), .base (.bl v), kitLT (by decide +kernel) (by decide +kernel), _, rfl, iteF ?_⟩⟩
          refine ⟨.bl v, rfl, .bl v, .ty "bool", _, _, true, rfl, .ty _, .base (.bl v), kit_ty (by decide +kernel), .bl v, rfl, .bl v, .ty "bool", _, _, true, rfl, .ty _, .base (.bl v), kit_ty (by decide +kernel), rfl, _, rfl, iteNS rfl ?_⟩
          refine ⟨.bl v, rfl, .bl v, .ty "int", _, _, true, rfl, .ty _, .base (.bl v), kit_ty (by decide +kernel), .bl v, rfl, .bl v, .ty "int", _, _, true, rfl, .ty _, .base (.bl v), kit_ty (by decide +kernel), rfl, _, rfl, iteNS rfl ?_⟩
          refine ⟨.bl v, rfl, .bl v, .ty "str", _, _, false, rfl, .ty _, .base (.bl v), kit_ty (by decide +kernel), .bl v, rfl, .bl v, .ty "str", _, _, false, rfl, .ty _, .base (.bl v), kit_ty (by decide +kernel), rfl, _, rfl, iteY rfl ?_⟩
          refine ⟨.bl v, rfl, .bl v, rfl, rfl, ?_⟩
          show Q (.bl (decide (V.bl v = V.bl v))) _
          rw [decide_eq_true rfl]
          exact k _ (Same.new hp)
        | int v =>
          refine ⟨.int v, rfl, _, rfl, iteN (fun e => nomatch e) ⟨.int v, rfl, _, rfl, iteN (fun e => nomatch e) ?_⟩⟩
          refine ⟨.int v, rfl, (by show 2 ≤ sizeLine; decide), fun p hp => ⟨.int v, p, _, _, _, false, rfl, upd_same, .cons (.ty _) (.cons (.ty _) .nil), .base (.int v), kitLT (by decide +kernel) (by decide +kernel), _, rfl, iteF ?_⟩⟩
          refine ⟨.int v, rfl, .int v, .ty "bool", _, _, false, rfl, .ty _, .base (.int v), kit_ty (by decide +kernel), .int v, rfl, .int v, .ty "bool", _, _, false, rfl, .ty _, .base (.int v), kit_ty (by decide +kernel), rfl, _, rfl, iteNS rfl ?_⟩
          refine ⟨.int v, rfl, .int v, .ty "int", _, _, true, rfl, .ty _, .base (.int v), kit_ty (by decide +kernel), .int v, rfl, .int v, .ty "int", _, _, true, rfl, .ty _, .base (.int v), kit_ty (by decide +kernel), rfl, _, rfl, iteNS rfl ?_⟩
          refine ⟨.int v, rfl, .int v, .ty "str", _, _, false, rfl, .ty _, .base (.int v), kit_ty (by decide +kernel), .int v, rfl, .int v, .ty "str", _, _, false, rfl, .ty _, .base (.int v), kit_ty (by decide +kernel), rfl, _, rfl, iteY rfl ?_⟩
          refine ⟨.int v, rfl, .int v, rfl, rfl, ?_⟩
          show Q (.bl (decide (V.int v = V.int v))) _
          rw [decide_eq_true rfl]
          exact k _ (Same.new hp)
        | str v =>
          refine ⟨.str v, rfl, _, rfl, iteN (fun e => nomatch e) ⟨.str v, rfl, _, rfl, iteN (fun e => nomatch e) ?_⟩⟩
          refine ⟨.str v, rfl, (by show 2 ≤ sizeLine; decide), fun p hp => ⟨.str v, p, _, _, _, false, rfl, upd_same, .cons (.ty _) (.cons (.ty _) .nil), .base (.str v), kitLT (by decide +kernel) (by decide +kernel), _, rfl, iteF ?_⟩⟩
          refine ⟨.str v, rfl, .str v, .ty "bool", _, _, false, rfl, .ty _, .base (.str v), kit_ty (by decide +kernel), .str v, rfl, .str v, .ty "bool", _, _, false, rfl, .ty _, .base (.str v), kit_ty (by decide +kernel), rfl, _, rfl, iteNS rfl ?_⟩
          refine ⟨.str v, rfl, .str v, .ty "int", _, _, false, rfl, .ty _, .base (.str v), kit_ty (by decide +kernel), .str v, rfl, .str v, .ty "int", _, _, false, rfl, .ty _, .base (.str v), kit_ty (by decide +kernel), rfl, _, rfl, iteNS rfl ?_⟩
          refine ⟨.str v, rfl, .str v, .ty "str", _, _, true, rfl, .ty _, .base (.str v), kit_ty (by decide +kernel), .str v, rfl, .str v, .ty "str", _, _, true, rfl, .ty _, .base (.str v), kit_ty (by decide +kernel), rfl, _, rfl, iteY rfl ?_⟩
          refine ⟨.str v, rfl, .str v, rfl, rfl, ?_⟩
          show Q (.bl (decide (V.str v = V.str v))) _
          rw [decide_eq_true rfl]
          exact k _ (Same.new hp)
        | _ => cases hf
      · refine ⟨.ref b, rfl, _, rfl, iteN (fun e => nomatch e) ⟨.ref a, rfl, _, rfl, iteN (fun e => nomatch e) ?_⟩⟩
        rcases hd with ⟨h1, h2⟩ | ⟨h1, h2⟩
        · refine ⟨.ref b, rfl, (by show 2 ≤ sizeLine; decide), fun p hp => ?_⟩
          have s1 : Same H (upd H p (.tup [.ty "list", .ty "tuple"])) := Same.new hp
          refine ⟨.ref b, p, _, _, _, true, rfl, upd_same, .cons (.ty _) (.cons (.ty _) .nil), tyx_l (s1.seq h2), kitLl, _, rfl, iteT ?_⟩
          generalize upd H p (.tup [.ty "list", .ty "tuple"]) = H1 at s1 ⊢
          have g1 := s1.seq h1
          have g2 := s1.seq h2
          refine ⟨.ref a, rfl, .ref a, .ty "list", _, _, true, rfl, .ty _, tyx_l g1, kit_ty (by decide +kernel), .ref b, rfl, .ref b, .ty "list", _, _, true, rfl, .ty _, tyx_l g2, kit_ty (by decide +kernel), rfl, _, rfl, iteNS rfl ?_⟩
          refine ⟨.ref a, rfl, .ref a, .ty "tuple", _, _, false, rfl, .ty _, tyx_l g1, kit_ty (by decide +kernel), .ref b, rfl, .ref b, .ty "tuple", _, _, false, rfl, .ty _, tyx_l g2, kit_ty (by decide +kernel), rfl, _, rfl, iteNS rfl ?_⟩
          refine ⟨.ref a, rfl, .ref a, _, rfl, .inl ⟨_, g1, rfl⟩, .ref b, rfl, .ref b, _, rfl, .inl ⟨_, g2, rfl⟩, rfl, _, rfl, iteY (by rw [hl]) ?_⟩
          refine ⟨.ref a, rfl, .ref b, rfl, a, b, xs, ys, rfl, .inl ⟨g1, g2, fun D hD => ?_⟩⟩
          have hD0 : H D = none := s1.free hD
          refine lc_it (walk_zip (K := K) (xs := xs) (ys := ys) (n := xs.length) (by omega)) (fun i H' => Same H H' ∧ H' D = some (.lst ((List.replicate i true).map V.bl))) ⟨Same.put s1 hD0, upd_same⟩ (fun i H' _ q => ⟨q.1.seq h1, q.1.seq h2⟩) ?_ ?_
          · rintro i v H2 H3 hi' ⟨s2, e2⟩ ⟨T, u, t, rfl, hT, rfl, hu, ht⟩
            refine ⟨T, [u, t], rfl, SqT.of upd_same, rfl, u, [t], rfl, t, [], rfl, rfl, rfl, u, rfl, t, rfl, u, t, rfl, ((hi i u t hu ht).same s2).same (Same.new hT), fun H4 s4 => ?_⟩
            have nDT : D ≠ T := ne_of_none e2 hT
            refine ⟨_, s4 _ _ (by rw [upd_ne nDT]; exact e2), ?_, (Same.put ((s2.trans (Same.new hT)).trans s4) hD0), ?_⟩
            · rw [List.length_map, List.length_replicate]
              exact Nat.lt_of_lt_of_le hi' (Nat.le_trans hz (by decide))
            · rw [upd_same, List.replicate_succ', List.map_append]
              rfl
          · rintro H' ⟨s2, e2⟩
            refine ⟨D, List.replicate xs.length true, rfl, SqL.of e2, ?_⟩
            rw [all_rep]
            exact k _ s2
        · refine ⟨.ref b, rfl, (by show 2 ≤ sizeLine; decide), fun p hp => ?_⟩
          have s1 : Same H (upd H p (.tup [.ty "list", .ty "tuple"])) := Same.new hp
          refine ⟨.ref b, p, _, _, _, true, rfl, upd_same, .cons (.ty _) (.cons (.ty _) .nil), tyx_t (Same.sqT s1 h2), kitLt, _, rfl, iteT ?_⟩
          generalize upd H p (.tup [.ty "list", .ty "tuple"]) = H1 at s1 ⊢
          have g1 := Same.sqT s1 h1
          have g2 := Same.sqT s1 h2
          refine ⟨.ref a, rfl, .ref a, .ty "list", _, _, false, rfl, .ty _, tyx_t g1, kit_ty (by decide +kernel), .ref b, rfl, .ref b, .ty "list", _, _, false, rfl, .ty _, tyx_t g2, kit_ty (by decide +kernel), rfl, _, rfl, iteNS rfl ?_⟩
          refine ⟨.ref a, rfl, .ref a, .ty "tuple", _, _, true, rfl, .ty _, tyx_t g1, kit_ty (by decide +kernel), .ref b, rfl, .ref b, .ty "tuple", _, _, true, rfl, .ty _, tyx_t g2, kit_ty (by decide +kernel), rfl, _, rfl, iteNS rfl ?_⟩
          refine ⟨.ref a, rfl, .ref a, _, rfl, .inr ⟨_, g1, rfl⟩, .ref b, rfl, .ref b, _, rfl, .inr ⟨_, g2, rfl⟩, rfl, _, rfl, iteY (by rw [hl]) ?_⟩
          refine ⟨.ref a, rfl, .ref b, rfl, a, b, xs, ys, rfl, .inr ⟨g1, g2, fun D hD => ?_⟩⟩
          have hD0 : H D = none := s1.free hD
          refine lc_it (walk_zipT (K := K) (xs := xs) (ys := ys) (n := xs.length) (by omega)) (fun i H' => Same H H' ∧ H' D = some (.lst ((List.replicate i true).map V.bl))) ⟨Same.put s1 hD0, upd_same⟩ (fun i H' _ q => ⟨Same.sqT q.1 h1, Same.sqT q.1 h2⟩) ?_ ?_
          · rintro i v H2 H3 hi' ⟨s2, e2⟩ ⟨T, u, t, rfl, hT, rfl, hu, ht⟩
            refine ⟨T, [u, t], rfl, SqT.of upd_same, rfl, u, [t], rfl, t, [], rfl, rfl, rfl, u, rfl, t, rfl, u, t, rfl, ((hi i u t hu ht).same s2).same (Same.new hT), fun H4 s4 => ?_⟩
            have nDT : D ≠ T := ne_of_none e2 hT
            refine ⟨_, s4 _ _ (by rw [upd_ne nDT]; exact e2), ?_, (Same.put ((s2.trans (Same.new hT)).trans s4) hD0), ?_⟩
            · rw [List.length_map, List.length_replicate]
              exact Nat.lt_of_lt_of_le hi' (Nat.le_trans hz (by decide))
            · rw [upd_same, List.replicate_succ', List.map_append]
              rfl
          · rintro H' ⟨s2, e2⟩
            refine ⟨D, List.replicate xs.length true, rfl, SqL.of e2, ?_⟩
            rw [all_rep]
            exact k _ s2
end

/-! ### values of every kind -/
/-- a text of ordinary size and signs -/
def StrK (z : Str) : Prop := z.cps.size ≤ 100000 ∧ ∀ c ∈ z.cps.toList, c < 1114112
/-- a value of data, n deep at most, none of whose lists is the bag -/
def Okv (K : PySem.W.Frag) (H : Hp) (b : Addr) : Nat → V → Prop
  | 0, v => flatV v = true ∧ ∀ z, v = .str z → StrK z
  | n + 1, v => (flatV v = true ∧ ∀ z, v = .str z → StrK z) ∨ ∃ (a : Addr) (xs : List V), v = .ref a ∧ a ≠ b ∧ (SqL K H a xs ∨ SqT K H a xs) ∧ xs.length ≤ 100000 ∧ ∀ x ∈ xs, Okv K H b n x
theorem Okv.stp {K : PySem.W.Frag} {H H' : Hp} {b : Addr} (s : Stp b H H') : ∀ {n : Nat} {v : V}, Okv K H b n v → Okv K H' b n v
  | 0, _, h => h
  | n + 1, _, .inl h => .inl h
  | n + 1, _, .inr ⟨a, xs, e, ne, h, hl, hx⟩ => .inr ⟨a, xs, e, ne, h.imp (s.sqL ne) (s.sqT ne), hl, fun x m => (hx x m).stp s⟩
theorem Okv.eqd {K : PySem.W.Frag} {H : Hp} {b : Addr} : ∀ {n : Nat} {v : V}, Okv K H b n v → Eqd K H n v v
  | 0, _, h => ⟨h.1, rfl⟩
  | n + 1, _, .inl h => .inl ⟨h.1, rfl⟩
  | n + 1, _, .inr ⟨a, xs, e, _, h, hl, hx⟩ => .inr ⟨a, a, xs, xs, e, e, h.imp (fun q => ⟨q, q⟩) (fun q => ⟨q, q⟩), rfl, hl, fun i u v hu hv => by
      rw [hu] at hv
      cases hv
      exact (hx u (List.mem_of_getElem? hu)).eqd⟩
theorem Okv.of_flat {K : PySem.W.Frag} {H : Hp} {b : Addr} {n : Nat} {v : V} (h : flatV v = true) (hz : ∀ z, v = .str z → StrK z) : Okv K H b n v := by
  cases n with
  | zero => exact ⟨h, hz⟩
  | succ n => exact .inl ⟨h, hz⟩
theorem Okv.non {K : PySem.W.Frag} {H : Hp} {b : Addr} {n : Nat} : Okv K H b n .non := .of_flat rfl (fun _ e => nomatch e)
theorem Okv.bl {K : PySem.W.Frag} {H : Hp} {b : Addr} {n : Nat} {k : Bool} : Okv K H b n (.bl k) := .of_flat rfl (fun _ e => nomatch e)
theorem Okv.int {K : PySem.W.Frag} {H : Hp} {b : Addr} {n : Nat} {i : Int} : Okv K H b n (.int i) := .of_flat rfl (fun _ e => nomatch e)
theorem Okv.str {K : PySem.W.Frag} {H : Hp} {b : Addr} {n : Nat} {z : Str} (h : StrK z) : Okv K H b n (.str z) := .of_flat rfl (fun _ e => by cases e; exact h)
/-- what kind it is -/
def isS : V → Bool
  | .str _ => true
  | _ => false
def isB : V → Bool
  | .bl _ => true
  | _ => false
def isI : V → Bool
  | .int _ => true
  | .bl _ => true
  | _ => false
theorem Okv.ty {K : PySem.W.Frag} {H : Hp} {b : Addr} {n : Nat} {v : V} (h : Okv K H b n v) : ∃ t, TyX K H v t ∧ PySem.W.kitOne K t (.type "str") = some (isS v) ∧ PySem.W.kitOne K t (.type "bool") = some (isB v) ∧ PySem.W.kitOne K t (.type "int") = some (isI v) := by
  have fl : flatV v = true → ∃ t, TyX K H v t ∧ PySem.W.kitOne K t (.type "str") = some (isS v) ∧ PySem.W.kitOne K t (.type "bool") = some (isB v) ∧ PySem.W.kitOne K t (.type "int") = some (isI v) := fun hf => by
    cases v with
    | non => exact ⟨_, .base .non, kit_ty (by decide +kernel), kit_ty (by decide +kernel), kit_ty (by decide +kernel)⟩
    | bl k => exact ⟨_, .base (.bl k), kit_ty (show kitB "bool" "str" = some false by decide +kernel), kit_ty (show kitB "bool" "bool" = some true by decide +kernel), kit_ty (show kitB "bool" "int" = some true by decide +kernel)⟩
    | int i => exact ⟨_, .base (.int i), kit_ty (show kitB "int" "str" = some false by decide +kernel), kit_ty (show kitB "int" "bool" = some false by decide +kernel), kit_ty (show kitB "int" "int" = some true by decide +kernel)⟩
    | str z => exact ⟨_, .base (.str z), kit_ty (show kitB "str" "str" = some true by decide +kernel), kit_ty (show kitB "str" "bool" = some false by decide +kernel), kit_ty (show kitB "str" "int" = some false by decide +kernel)⟩
    | _ => cases hf
  cases n with
  | zero => exact fl h.1
  | succ n =>
    rcases h with h | ⟨a, xs, rfl, _, h | h, _⟩
    · exact fl h.1
    · exact ⟨_, tyx_l h, kit_ty (show kitB "list" "str" = some false by decide +kernel), kit_ty (show kitB "list" "bool" = some false by decide +kernel), kit_ty (show kitB "list" "int" = some false by decide +kernel)⟩
    · exact ⟨_, tyx_t h, kit_ty (show kitB "tuple" "str" = some false by decide +kernel), kit_ty (show kitB "tuple" "bool" = some false by decide +kernel), kit_ty (show kitB "tuple" "int" = some false by decide +kernel)⟩
theorem Okv.strK {K : PySem.W.Frag} {H : Hp} {b : Addr} {n : Nat} {z : Str} (h : Okv K H b n (.str z)) : StrK z := by
  cases n with
  | zero => exact h.2 z rfl
  | succ n =>
    rcases h with h | ⟨a, xs, e, _⟩
    · exact h.2 z rfl
    · cases e
theorem Okv.short {K : PySem.W.Frag} {H : Hp} {b : Addr} {n : Nat} {z : Str} (h : Okv K H b n (.str z)) : z.cps.size ≤ 100000 := h.strK.1
theorem isS_of {v : V} (h : isS v = true) : ∃ z, v = .str z := by
  cases v with
  | str z => exact ⟨z, rfl⟩
  | _ => cases h
/-! ### names and numbers, as plain functions -/
def inL (c : Nat) : Bool := decide (97 ≤ c) && decide (c ≤ 122)
def nmV : V → Bool
  | .str z => decide (1 ≤ z.cps.size) && decide (z.cps.size ≤ 6) && z.cps.toList.all inL
  | _ => false
def numV (v : V) (lo hi : Int) : Bool := match v with
  | .int i => decide (lo ≤ i) && decide (i ≤ hi)
  | _ => false
def regs : List V := [.str "r0", .str "r1", .str "r2"]
def regV (v : V) : Bool := isS v && inV v regs
theorem lt_sign (c d : Nat) : (([c] : List Nat) < [d]) ↔ c < d := by
  constructor
  · intro h
    cases h with
    | rel h => exact h
    | cons h => cases h
  · intro h
    exact .rel h
theorem le_sign (c d : Nat) : (!decide (([c] : List Nat) < [d])) = decide (d ≤ c) := by
  rw [Bool.eq_iff_iff]
  simp [lt_sign]
theorem cps_a : ("a" : Str).cps.toList = [97] := by decide +kernel
theorem cps_z : ("z" : Str).cps.toList = [122] := by decide +kernel
theorem cps_abc : ("abcdefghijklmnopqrstuvwxyz" : Str).cps.toList = List.range' 97 26 := by decide +kernel
theorem in_abc (c : Nat) : decide (c ∈ ("abcdefghijklmnopqrstuvwxyz" : Str).cps.toList) = inL c := by
  rw [cps_abc, Bool.eq_iff_iff]
  simp [inL, List.mem_range'_1]
  omega
/-- what holds of each answer, told ahead: any extension, then the answer -/
theorem take_snoc {α β : Type} (f : α → β) {l : List α} {i : Nat} {x : α} (h : l[i]? = some x) : (l.take (i + 1)).map f = (l.take i).map f ++ [f x] := by
  rw [List.take_add_one, h, List.map_append]
  rfl

/-! ### texts of drawn signs -/
theorem joinL_ones : ∀ cs : List Nat, TL.joinL [] (cs.map fun c => [c]) = cs
  | [] => rfl
  | [_] => rfl
  | c :: d :: r => by
    show [c] ++ ([] ++ TL.joinL [] ((d :: r).map fun c => [c])) = c :: d :: r
    rw [joinL_ones (d :: r)]
    rfl
theorem join_ones (cs : List Nat) : Txt.join ("" : Str) (cs.map fun c => (⟨#[c]⟩ : Str)) = ⟨cs.toArray⟩ := by
  have e : ("" : Str) = SX.S [] := by decide +kernel
  have e2 : (cs.map fun c => (⟨#[c]⟩ : Str)) = (cs.map fun c => [c]).map SX.S := by
    rw [List.map_map]
    rfl
  rw [e, e2, SX.join_S, joinL_ones]
theorem len_ones : ∀ cs : List Nat, ((cs.map fun c => (⟨#[c]⟩ : Str)).map (·.length)).sum = cs.length
  | [] => rfl
  | c :: r => by
    rw [List.map_cons, List.map_cons, List.sum_cons, len_ones r, List.length_cons]
    show 1 + r.length = r.length + 1
    omega
theorem strK_of {cs : List Nat} (hl : cs.length ≤ 100000) (h : ∀ c ∈ cs, c < 1114112) : StrK (⟨cs.toArray⟩ : Str) := ⟨by simpa using hl, by simpa using h⟩
theorem Eqd.lists {K : PySem.W.Frag} {H : Hp} {a b : Addr} {xs : List V} {n : Nat} (h1 : SqL K H a xs) (h2 : SqL K H b xs) (hl : xs.length ≤ 100000) (hf : ∀ x ∈ xs, Eqd K H n x x) : Eqd K H (n + 1) (.ref a) (.ref b) :=
  .inr ⟨a, b, xs, xs, rfl, rfl, .inl ⟨h1, h2⟩, rfl, hl, fun i u v hu hv => by
    rw [hu] at hv
    cases hv
    exact hf u (List.mem_of_getElem? hu)⟩
theorem Eqd.tups {K : PySem.W.Frag} {H : Hp} {a b : Addr} {xs : List V} {n : Nat} (h1 : SqT K H a xs) (h2 : SqT K H b xs) (hl : xs.length ≤ 100000) (hf : ∀ x ∈ xs, Eqd K H n x x) : Eqd K H (n + 1) (.ref a) (.ref b) :=
  .inr ⟨a, b, xs, xs, rfl, rfl, .inr ⟨h1, h2⟩, rfl, hl, fun i u v hu hv => by
    rw [hu] at hv
    cases hv
    exact hf u (List.mem_of_getElem? hu)⟩
/-- a flat value is what it is in any heap -/
theorem Okv.lst0 {K : PySem.W.Frag} {H : Hp} {b a : Addr} {n : Nat} {xs : List V} (ne : a ≠ b) (h : SqL K H a xs) (hl : xs.length ≤ 100000) (hx : ∀ x ∈ xs, Okv K H b n x) : Okv K H b (n + 1) (.ref a) := .inr ⟨a, xs, rfl, ne, .inl h, hl, hx⟩
theorem Okv.tup0 {K : PySem.W.Frag} {H : Hp} {b a : Addr} {n : Nat} {xs : List V} (ne : a ≠ b) (h : SqT K H a xs) (hl : xs.length ≤ 100000) (hx : ∀ x ∈ xs, Okv K H b n x) : Okv K H b (n + 1) (.ref a) := .inr ⟨a, xs, rfl, ne, .inr h, hl, hx⟩
theorem mem1 {α : Type} {P : α → Prop} {x : α} (h : P x) : ∀ y ∈ [x], P y := fun y m => by
  rw [List.mem_singleton.mp m]
  exact h
theorem memc {α : Type} {P : α → Prop} {x : α} {l : List α} (h : P x) (t : ∀ y ∈ l, P y) : ∀ y ∈ x :: l, P y := fun y m => by
  rcases List.mem_cons.mp m with e | m
  · rw [e]
    exact h
  · exact t y m
theorem mem0 {α : Type} {P : α → Prop} : ∀ y ∈ ([] : List α), P y := fun _ m => nomatch m
theorem mema {α : Type} {P : α → Prop} {l r : List α} (h : ∀ y ∈ l, P y) (t : ∀ y ∈ r, P y) : ∀ y ∈ l ++ r, P y := fun y m => by
  rcases List.mem_append.mp m with m | m
  · exact h y m
  · exact t y m
/-- a written text -/
theorem Okv.lit {K : PySem.W.Frag} {H : Hp} {b : Addr} {n : Nat} {z : Str} (h : (decide (z.cps.size ≤ 100000) && z.cps.toList.all fun c => decide (c < 1114112)) = true) : Okv K H b n (.str z) := by
  rw [Bool.and_eq_true] at h
  refine .str ⟨of_decide_eq_true h.1, fun c m => ?_⟩
  have q := List.all_eq_true.mp h.2 c m
  exact of_decide_eq_true q
/-- such a text drawn from -/
theorem Thg.lit {K : PySem.W.Frag} {H : Hp} {b : Addr} {z : Str} (h : (decide (0 < z.cps.size) && decide (z.cps.size ≤ 100000) && z.cps.toList.all fun c => decide (c < 1114112)) = true) : Thg K H b (.str z) (fun v => ∃ c, v = .str ⟨#[c]⟩ ∧ c < 1114112) := by
  rw [Bool.and_eq_true, Bool.and_eq_true] at h
  exact .inl ⟨z, rfl, of_decide_eq_true h.1.1, of_decide_eq_true h.1.2, fun c m => ⟨c, rfl, of_decide_eq_true (List.all_eq_true.mp h.2 c m)⟩⟩
theorem Thg.lst {K : PySem.W.Frag} {H : Hp} {b a : Addr} {xs : List V} {Pt : V → Prop} (ne : a ≠ b) (h : SqL K H a xs) (h0 : 0 < xs.length) (hl : xs.length ≤ 100000) (hx : ∀ v ∈ xs, Pt v) : Thg K H b (.ref a) Pt := .inr ⟨a, xs, rfl, ne, h, h0, hl, hx⟩

/-! ### list of a text -/
theorem call_list_str1 {X : Cx} (hc : X.calm = true) : CallR X (.type "list") (fun xs H Q => ∃ z : Str, xs = [.str z] ∧ z.cps.size ≤ sizeLine ∧ ∀ p, H p = none → Q (.ref p) (upd H p (.lst (z.cps.toList.map fun c => V.str ⟨#[c]⟩)))) := by
  intro pins s σ H xs us Q I r h
  obtain ⟨z, rfl, hz, q⟩ := h
  obtain ⟨u, rfl, t, rfl⟩ := vals1 r
  refine PySem.call_list_str (I.ok.hd hc) z t (fun h' tk acc' c' hk hS' hacc => ?_) hz
  have rv : Vals (z.cps.toList.map fun c => V.str ⟨#[c]⟩) acc'.toList := vals_of_idx _ _ (by simpa using hacc.1) fun j u hj => by
    obtain ⟨c, t2, hc2, rfl⟩ := hacc.2 j u (by simpa using hj)
    exact ⟨.str ⟨#[c]⟩, by simp [hc2], ⟨t2, rfl⟩⟩
  exact ⟨.ref s.heap.objs.size, _, I.laid (t' := tk) hk (Nat.le_refl _) (show ObjOk X.prog X.w _ h' _ (.lst _) from ⟨by simpa using hz, acc'.toList, c', rv, by simpa using hS'⟩), rfl, q _ (I.hok.fresh (Nat.le_refl _))⟩

section
variable {P : Program} {w : World} {K : PySem.W.Frag} {mg : Str → Option Value} {base : Heap} {Z : Fs}
/-! ### is_name -/
def sp_is_name (K : PySem.W.Frag) : Sp := fun vs H Q _ => ∃ (v : V) (b : Addr) (n : Nat), vs = [v] ∧ Okv K H b n v ∧ ∀ H' : Hp, Same H H' → Q (.bl (nmV v)) H'
theorem ok_is_name (T : Txt K w mg Z) : FnOk P w K mg base CX0 1 Z.a_is_name Z.d_is_name ["value"] (sp_is_name K) := by
  refine T.F_is_name.ok sc_is_name (fun vs H Q E h => ?_) (fun cdv A outer s H vs Q E hr h => ?_)
  · obtain ⟨v, b, n, rfl, _⟩ := h
    rfl
  · obtain ⟨v, b, n, rfl, ok, k⟩ := h
    refine ⟨_, (pss_cons (ps_if (PW.pt (pw_or (pt_not (pt_val (pe_callB call_isi (by rfl) T.n_isinstance boot_isinstance (pa_cons (pv 0) (pa_cons (pe_bltn (v := .ty "str") (by rfl) T.n_str boot_str rfl) pa_nil))))) (pw_or1 (pt_not (pt_chain op_le op_le pe_int (pe_callB call_len (by rfl) T.n_len boot_len (pa_cons (pv 0) pa_nil)) (pe_glob (v := .int 6) (by rfl) (Classical.choose_spec T.g_MOST_LETTERS) ⟨_, rfl⟩)))))) (pss_one (ps_ret pe_bl)) pss_nil)
      (pss_one (ps_ret (pe_callB (cr_all rfl) (by rfl) T.n_all boot_all (pa_cons (pe_lc (own := [("letter", 1)]) (g := gName 1) (tt := tYes) rfl sc_is_name.nd (pi_str (pv 0)) (blkOk_by (N := N_is_name) (sc := defScope s_is_name) (by decide +kernel)) (fun _ _ _ _ _ => pg_name (i := 1) sc_is_name.nd rfl (Or.inl rfl)) (fun _ _ _ _ _ => pts_nil) (fun _ _ _ _ _ => (pe_chain op_le_str op_le_str pe_str (pv 1) pe_str))) pa_nil))))), ?_⟩
    obtain ⟨t, ty, kS, _, _⟩ := ok.ty
    refine ⟨v, rfl, v, .ty "str", t, _, _, rfl, .ty _, ty, kS, _, rfl, ?_⟩
    cases hv : isS v with
    | false =>
      refine iteT ?_
      have e : nmV v = false := by
        cases v with
        | str z => cases hv
        | _ => rfl
      show Q (.bl false) H
      rw [← e]
      exact k _ (Same.refl _)
    | true =>
      obtain ⟨z, rfl⟩ := isS_of hv
      refine iteF ?_
      refine ⟨.str z, rfl, .str z, z.cps.size, rfl, ⟨Nat.le_trans ok.short (by decide), rfl⟩, _, _, rfl, rfl, _, rfl, ite2 (fun h1 => ?_) (fun h1 => ?_)⟩
      · have h1' : 1 ≤ z.cps.size := by
          have q := of_decide_eq_true h1
          omega
        refine ⟨_, _, rfl, rfl, _, rfl, ?_⟩
        refine ite2 (fun h2 => ?_) (fun h2 => ?_)
        · have e : nmV (.str z) = false := by
            have q : ¬ z.cps.size ≤ 6 := by
              simp at h2
              omega
            simp [nmV, q]
          show Q (.bl false) H
          rw [← e]
          exact k _ (Same.refl _)
        · have q : z.cps.size ≤ 6 := by
            simp at h2
            omega
          refine ⟨.str z, rfl, z, rfl, fun D hD => ?_⟩
          refine lc_it (walk_str (z := z)) (fun i H' => Same H H' ∧ H' D = some (.lst (((z.cps.toList.take i).map inL).map V.bl))) ⟨Same.new hD, upd_same⟩ (fun _ _ _ _ => True.intro) ?_ ?_
          · rintro i v H2 H3 hi ⟨s2, e2⟩ ⟨rfl, c, hc, rfl⟩
            have hc' : z.cps.toList[i]? = some c := by simpa using hc
            refine ⟨rfl, .str ⟨#[c]⟩, rfl, "a", ⟨#[c]⟩, rfl, rfl, _, rfl, ite2 (fun h3 => ?_) (fun h3 => ?_)⟩
            · refine ⟨⟨#[c]⟩, "z", rfl, rfl, _, e2, ?_, Same.put s2 hD, ?_⟩
              · rw [List.length_map, List.length_map, List.length_take]
                exact Nat.lt_of_le_of_lt (Nat.min_le_left _ _) (Nat.lt_of_lt_of_le hi (Nat.le_trans ok.short (by decide)))
              · rw [upd_same, take_snoc inL hc', List.map_append]
                rw [cps_a, le_sign] at h3
                rw [cps_z]
                have e : (!decide (([122] : List Nat) < (⟨#[c]⟩ : Str).cps.toList)) = inL c := by
                  show (!decide (([122] : List Nat) < [c])) = inL c
                  rw [le_sign]
                  simp only [inL]
                  rw [h3]
                  rfl
                rw [e]
                rfl
            · refine ⟨_, e2, ?_, Same.put s2 hD, ?_⟩
              · rw [List.length_map, List.length_map, List.length_take]
                exact Nat.lt_of_le_of_lt (Nat.min_le_left _ _) (Nat.lt_of_lt_of_le hi (Nat.le_trans ok.short (by decide)))
              · rw [upd_same, take_snoc inL hc', List.map_append]
                rw [cps_a, le_sign] at h3
                have e : false = inL c := by
                  have h4 : decide (97 ≤ c) = false := by simpa using h3
                  simp only [inL]
                  rw [h4]
                  rfl
                rw [← e]
                rfl
          · rintro H' ⟨s2, e2⟩
            refine ⟨D, _, rfl, SqL.of e2, ?_⟩
            have e : ((z.cps.toList.take z.cps.size).map inL).all id = nmV (.str z) := by
              rw [List.take_of_length_le (by simp)]
              simp [nmV, h1', q, List.all_map]
            rw [e]
            exact k _ s2
      · refine ⟨_, rfl, iteT ?_⟩
        have e : nmV (.str z) = false := by
          have q : ¬ 1 ≤ z.cps.size := fun q => h1 (decide_eq_true (by omega))
          simp [nmV, q]
        show Q (.bl false) H
        rw [← e]
        exact k _ (Same.refl _)
end

section
variable {P : Program} {w : World} {K : PySem.W.Frag} {mg : Str → Option Value} {base : Heap} {Z : Fs}
def sp_is_number (K : PySem.W.Frag) : Sp := fun vs H Q _ => ∃ (v : V) (lo hi : Int) (b : Addr) (n : Nat), vs = [v, .int lo, .int hi] ∧ Okv K H b n v ∧ ∀ H' : Hp, Same H H' → Q (.bl (numV v lo hi)) H'
theorem ok_is_number (T : Txt K w mg Z) : FnOk P w K mg base CX0 1 Z.a_is_number Z.d_is_number ["value", "least", "most"] (sp_is_number K) := by
  refine T.F_is_number.ok sc_is_number (fun vs H Q E h => ?_) (fun cdv A outer s H vs Q E hr h => ?_)
  · obtain ⟨v, lo, hi, b, n, rfl, _⟩ := h
    rfl
  · obtain ⟨v, lo, hi, b, n, rfl, ok, k⟩ := h
    refine ⟨_, (pss_cons (ps_if (PW.pt (pw_or (pt_val (pe_callB call_isi (by rfl) T.n_isinstance boot_isinstance (pa_cons (pv 0) (pa_cons (pe_bltn (v := .ty "bool") (by rfl) T.n_bool boot_bool rfl) pa_nil)))) (pw_or1 (pt_not (pt_val (pe_callB call_isi (by rfl) T.n_isinstance boot_isinstance (pa_cons (pv 0) (pa_cons (pe_bltn (v := .ty "int") (by rfl) T.n_int boot_int rfl) pa_nil)))))))) (pss_one (ps_ret pe_bl)) pss_nil)
      (pss_one (ps_ret (pe_chain op_le op_le (pv 1) (pv 0) (pv 2))))), ?_⟩
    obtain ⟨t, ty, _, kB, kI⟩ := ok.ty
    refine ⟨v, rfl, v, .ty "bool", t, _, _, rfl, .ty _, ty, kB, _, rfl, ?_⟩
    have no : (∀ i, v ≠ .int i) → Q (.bl false) H := fun hn => by
      have e : numV v lo hi = false := by
        cases v with
        | int i => exact absurd rfl (hn i)
        | _ => rfl
      rw [← e]
      exact k _ (Same.refl _)
    cases hb : isB v with
    | true =>
      refine iteT (iteT (no fun i e => ?_))
      rw [e] at hb
      cases hb
    | false =>
      refine iteF ?_
      refine ⟨v, rfl, v, .ty "int", t, _, _, rfl, .ty _, ty, kI, _, rfl, ?_⟩
      cases hi' : isI v with
      | false =>
        refine iteT (no fun i e => ?_)
        rw [e] at hi'
        cases hi'
      | true =>
        refine iteF ?_
        obtain ⟨i, rfl⟩ : ∃ i, v = .int i := by
          cases v with
          | int i => exact ⟨i, rfl⟩
          | bl _ => cases hb
          | _ => cases hi'
        refine ⟨.int lo, rfl, .int i, rfl, _, _, rfl, rfl, _, rfl, ite2 (fun h1 => ?_) (fun h1 => ?_)⟩
        · refine ⟨.int hi, rfl, _, _, rfl, rfl, ?_⟩
          have e : numV (.int i) lo hi = decide (i ≤ hi) := by simp [numV, of_decide_eq_true h1]
          show Q (.bl (decide (i ≤ hi))) H
          rw [← e]
          exact k _ (Same.refl _)
        · have e : numV (.int i) lo hi = false := by
            have q : ¬ lo ≤ i := fun q => h1 (decide_eq_true q)
            simp [numV, q]
          show Q (.bl false) H
          rw [← e]
          exact k _ (Same.refl _)
end

section
variable {P : Program} {w : World} {K : PySem.W.Frag} {mg : Str → Option Value} {base : Heap} {Z : Fs}
def sp_is_register (K : PySem.W.Frag) : Sp := fun vs H Q _ => ∃ (v : V) (b : Addr) (n : Nat), vs = [v] ∧ Okv K H b n v ∧ ∀ H' : Hp, Same H H' → Q (.bl (regV v)) H'
theorem ok_is_register (T : Txt K w mg Z) : FnOk P w K mg base CX0 1 Z.a_is_register Z.d_is_register ["value"] (sp_is_register K) := by
  refine T.F_is_register.ok sc_is_register (fun vs H Q E h => ?_) (fun cdv A outer s H vs Q E hr h => ?_)
  · obtain ⟨v, b, n, rfl, _⟩ := h
    rfl
  · obtain ⟨v, b, n, rfl, ok, k⟩ := h
    refine ⟨_, (pss_one (ps_ret (pe_and (pe_callB call_isi (by rfl) T.n_isinstance boot_isinstance (pa_cons (pv 0) (pa_cons (pe_bltn (v := .ty "str") (by rfl) T.n_str boot_str rfl) pa_nil))) (pe_one (pe_cmpR (op_in_seq : OpR _ _ (rIn K false)) (pv 0) (pe_glob (v := .ref Z.c_REGISTERS) (by rfl) T.g_REGISTERS rfl) (by rfl)))))), ?_⟩
    obtain ⟨t, ty, kS, _, _⟩ := ok.ty
    refine ⟨v, rfl, v, .ty "str", t, _, _, rfl, .ty _, ty, kS, _, rfl, ?_⟩
    cases hv : isS v with
    | false =>
      refine iteF ?_
      have e : regV v = false := by simp [regV, hv]
      rw [← e]
      exact k _ (Same.refl _)
    | true =>
      refine iteT ?_
      obtain ⟨z, rfl⟩ := isS_of hv
      refine ⟨.str z, rfl, _, regs, rfl, .inr (T.v_REGISTERS H), rfl, rfl, ?_⟩
      have e : regV (.str z) = inV (.str z) regs := by simp [regV, isS]
      show Q (.bl (inV (.str z) regs)) H
      rw [← e]
      exact k _ (Same.refl _)
end

theorem eqv_nil : PyData.eqv (.list []) (.list []) = true := by decide +kernel
theorem eqv_cons (d : PyData) (ds : List PyData) : PyData.eqv (.list (d :: ds)) (.list []) = false := by rfl
theorem dp_strs {K : PySem.W.Frag} {H : Hp} : ∀ l : List Nat, DpAll K H (l.map fun c => V.str ⟨#[c]⟩) (l.map fun c => PyData.str ⟨#[c]⟩)
  | [] => .nil
  | c :: l => .cons (.str _) (dp_strs l)
theorem lay_strs : ∀ l : List Nat, (∀ c ∈ l, c < 1114112) → PyData.canLayAll0 (l.map fun c => PyData.str ⟨#[c]⟩) = true
  | [], _ => by simp [PyData.canLayAll0]
  | c :: l, h => by
    have h1 := h c (List.mem_cons_self ..)
    have h2 := lay_strs l fun d m => h d (List.mem_cons_of_mem _ m)
    simp [PyData.canLayAll0, PyData.canLay0, PyData.strOk, h1, h2]
theorem dep_strs : ∀ l : List Nat, PyData.depthAll (l.map fun c => PyData.str ⟨#[c]⟩) ≤ 1
  | [] => by simp [PyData.depthAll]
  | c :: l => by
    have h2 := dep_strs l
    simp [PyData.depthAll, PyData.depth]
    omega
theorem shaped_strs {l : List Nat} (h : ∀ c ∈ l, c < 1114112) : SeqAt.shaped (.list (l.map fun c => PyData.str ⟨#[c]⟩)) = true := by
  have h1 := lay_strs l h
  have h2 := dep_strs l
  simp [SeqAt.shaped, PyData.canLay0, PyData.depth, h1]
  omega
section
variable {P : Program} {w : World} {K : PySem.W.Frag} {mg : Str → Option Value} {base : Heap} {Z : Fs}
def sp_law_is_title (K : PySem.W.Frag) : Sp := fun vs H Q _ => ∃ (v : V) (b : Addr) (n : Nat), vs = [v] ∧ Okv K H b n v ∧ ∀ H' : Hp, Same H H' → Q (.bl (nmV v)) H'
theorem ok_law_is_title (T : Txt K w mg Z) : FnOk P w K mg base CX0 1 Z.a_law_is_title Z.d_law_is_title ["_law_thing"] (sp_law_is_title K) := by
  refine T.F_law_is_title.ok sc_law_is_title (fun vs H Q E h => ?_) (fun cdv A outer s H vs Q E hr h => ?_)
  · obtain ⟨v, b, n, rfl, _⟩ := h
    rfl
  · obtain ⟨v, b, n, rfl, ok, k⟩ := h
    refine ⟨_, (pss_cons (ps_if (PW.pt (pw_or (pt_not (pt_val (pe_callB call_isi (by rfl) T.n_isinstance boot_isinstance (pa_cons (pv 0) (pa_cons (pe_bltn (v := .ty "str") (by rfl) T.n_str boot_str rfl) pa_nil))))) (pw_or (pt_cmpR op_lt (pe_callB call_len (by rfl) T.n_len boot_len (pa_cons (pv 0) pa_nil)) pe_int (nomark _)) (pw_or1 (pt_cmpR op_gt (pe_callB call_len (by rfl) T.n_len boot_len (pa_cons (pv 0) pa_nil)) pe_int (nomark _)))))) (pss_one (ps_ret pe_bl)) pss_nil)
      (pss_one (ps_ret (pe_cmpR (op_eqD hr.units) (pe_lc (own := [("_law_sign", 1)]) (g := gName 1) rfl sc_law_is_title.nd (pi_str (pv 0)) (blkOk_by (N := N_law_is_title) (sc := defScope s_law_is_title) (by decide +kernel)) (fun _ _ _ _ _ => pg_name (i := 1) sc_law_is_title.nd rfl (Or.inl rfl)) (fun _ _ _ _ _ => pts_one (pt_cmpR op_notIn_sign (pv 1) pe_str rfl)) (fun _ _ _ _ _ => (pv 1))) (pe_lst pa_nil) (nomark _))))), ?_⟩
    obtain ⟨t, ty, kS, _, _⟩ := ok.ty
    refine ⟨v, rfl, v, .ty "str", t, _, _, rfl, .ty _, ty, kS, _, rfl, ?_⟩
    cases hv : isS v with
    | false =>
      refine iteT (iteT ?_)
      have e : nmV v = false := by
        cases v with
        | str z => cases hv
        | _ => rfl
      rw [← e]
      exact k _ (Same.refl _)
    | true =>
      obtain ⟨z, rfl⟩ := isS_of hv
      refine iteF ?_
      refine ⟨.str z, rfl, .str z, z.cps.size, rfl, ⟨Nat.le_trans ok.short (by decide), rfl⟩, _, _, rfl, rfl, _, rfl, ite2 (fun h1 => ?_) (fun h1 => ?_)⟩
      · have e : nmV (.str z) = false := by
          have q : ¬ 1 ≤ z.cps.size := fun q => by
            have q2 := of_decide_eq_true h1
            omega
          simp [nmV, q]
        refine iteT ?_
        rw [← e]
        exact k _ (Same.refl _)
      · have h1' : 1 ≤ z.cps.size := by
          have q : ¬ ((z.cps.size : Int) < 1) := fun q => h1 (decide_eq_true q)
          omega
        refine ⟨.str z, rfl, .str z, z.cps.size, rfl, ⟨Nat.le_trans ok.short (by decide), rfl⟩, _, _, rfl, rfl, _, rfl, ite2 (fun h2 => ?_) (fun h2 => ?_)⟩
        · have e : nmV (.str z) = false := by
            have q : ¬ z.cps.size ≤ 6 := fun q => by
              have q2 := of_decide_eq_true h2
              omega
            simp [nmV, q]
          show Q (.bl false) H
          rw [← e]
          exact k _ (Same.refl _)
        · have h2' : z.cps.size ≤ 6 := by
            have q : ¬ ((6 : Int) < z.cps.size) := fun q => h2 (decide_eq_true q)
            omega
          refine ⟨.str z, rfl, z, rfl, fun D hD => ?_⟩
          refine lc_it (walk_str (z := z)) (fun i H' => Same H H' ∧ H' D = some (.lst (((z.cps.toList.take i).filter fun c => !inL c).map fun c => V.str ⟨#[c]⟩))) ⟨Same.new hD, upd_same⟩ (fun _ _ _ _ => True.intro) ?_ ?_
          · rintro i v H2 H3 hi ⟨s2, e2⟩ ⟨rfl, c, hc, rfl⟩
            have hc' : z.cps.toList[i]? = some c := by simpa using hc
            refine ⟨rfl, .str ⟨#[c]⟩, rfl, c, _, rfl, rfl, _, rfl, ?_⟩
            rw [in_abc]
            cases hq : inL c with
            | false =>
              refine iteT ⟨_, rfl, _, e2, ?_, Same.put s2 hD, ?_⟩
              · rw [List.length_map]
                exact Nat.lt_of_le_of_lt (List.length_filter_le _ _) (Nat.lt_of_le_of_lt (List.length_take_le _ _) (Nat.lt_of_lt_of_le hi (Nat.le_trans ok.short (by decide))))
              · rw [upd_same, List.take_add_one, hc', List.filter_append, List.map_append]
                simp [hq]
            | true =>
              refine iteF ⟨s2, ?_⟩
              rw [e2, List.take_add_one, hc', List.filter_append, List.map_append]
              simp [hq]
          · rintro H' ⟨s2, e2⟩
            refine ⟨Nat.zero_le _, fun p hp => ?_⟩
            have nDp : D ≠ p := ne_of_none e2 hp
            refine ⟨.list _, .list [], .lst (SqL.of (by rw [upd_ne nDp]; exact e2)) (dp_strs _), .lst (SqL.of upd_same) .nil, shaped_strs (fun c m => ok.strK.2 c (List.mem_of_mem_take (List.mem_filter.mp m).1)), rfl, ?_⟩
            have e : PyData.eqv (.list (((z.cps.toList.take z.cps.size).filter fun c => !inL c).map fun c => PyData.str ⟨#[c]⟩)) (.list []) = nmV (.str z) := by
              rw [List.take_of_length_le (by simp)]
              have hn : nmV (.str z) = z.cps.toList.all inL := by simp [nmV, h1', h2']
              rw [hn]
              cases hf : (z.cps.toList.filter fun c => !inL c) with
              | nil =>
                rw [List.filter_eq_nil_iff] at hf
                have ha : z.cps.toList.all inL = true := by
                  rw [List.all_eq_true]
                  intro c hc
                  have q := hf c hc
                  simpa using q
                rw [ha]
                exact eqv_nil
              | cons c r =>
                have hm : c ∈ z.cps.toList.filter fun c => !inL c := by
                  rw [hf]
                  exact List.mem_cons_self ..
                rw [List.mem_filter] at hm
                have ha : z.cps.toList.all inL = false := by
                  rw [List.all_eq_false]
                  exact ⟨c, hm.1, by simpa using hm.2⟩
                rw [ha]
                exact eqv_cons _ _
            rw [e]
            exact k _ (s2.trans (Same.new hp))
end

section
variable {P : Program} {w : World} {K : PySem.W.Frag} {mg : Str → Option Value} {base : Heap} {Z : Fs}
def sp_law_within (K : PySem.W.Frag) : Sp := fun vs H Q _ => ∃ (v : V) (lo hi : Int) (b : Addr) (n : Nat), vs = [v, .int lo, .int hi] ∧ Okv K H b n v ∧ ∀ H' : Hp, Same H H' → Q (.bl (numV v lo hi)) H'
theorem ok_law_within (T : Txt K w mg Z) : FnOk P w K mg base CX0 1 Z.a_law_within Z.d_law_within ["_law_thing", "_law_low_y", "_law_high_y"] (sp_law_within K) := by
  refine T.F_law_within.ok sc_law_within (fun vs H Q E h => ?_) (fun cdv A outer s H vs Q E hr h => ?_)
  · obtain ⟨v, lo, hi, b, n, rfl, _⟩ := h
    rfl
  · obtain ⟨v, lo, hi, b, n, rfl, ok, k⟩ := h
    refine ⟨_, (pss_one (ps_ret (pe_and (pe_callB call_isi (by rfl) T.n_isinstance boot_isinstance (pa_cons (pv 0) (pa_cons (pe_bltn (v := .ty "int") (by rfl) T.n_int boot_int rfl) pa_nil))) (pe_and (pe_not (pe_callB call_isi (by rfl) T.n_isinstance boot_isinstance (pa_cons (pv 0) (pa_cons (pe_bltn (v := .ty "bool") (by rfl) T.n_bool boot_bool rfl) pa_nil)))) (pe_and (pe_cmpR op_le (pv 1) (pv 0) (nomark _)) (pe_one (pe_cmpR op_le (pv 0) (pv 2) (nomark _)))))))), ?_⟩
    obtain ⟨t, ty, _, kB, kI⟩ := ok.ty
    have no : (∀ i, v ≠ .int i) → Q (.bl false) H := fun hn => by
      have e : numV v lo hi = false := by
        cases v with
        | int i => exact absurd rfl (hn i)
        | _ => rfl
      rw [← e]
      exact k _ (Same.refl _)
    refine ⟨v, rfl, v, .ty "int", t, _, _, rfl, .ty _, ty, kI, _, rfl, ?_⟩
    cases hi' : isI v with
    | false =>
      refine iteF (no fun i e => ?_)
      rw [e] at hi'
      cases hi'
    | true =>
      refine iteT ?_
      refine ⟨v, rfl, v, .ty "bool", t, _, _, rfl, .ty _, ty, kB, _, rfl, _, rfl, ?_⟩
      cases hb : isB v with
      | true =>
        refine iteF (no fun i e => ?_)
        rw [e] at hb
        cases hb
      | false =>
        refine iteT ?_
        obtain ⟨i, rfl⟩ : ∃ i, v = .int i := by
          cases v with
          | int i => exact ⟨i, rfl⟩
          | bl _ => cases hb
          | _ => cases hi'
        refine ⟨.int lo, rfl, .int i, rfl, _, _, rfl, rfl, _, rfl, ite2 (fun h1 => ?_) (fun h1 => ?_)⟩
        · refine ⟨.int i, rfl, .int hi, rfl, _, _, rfl, rfl, ?_⟩
          have e : numV (.int i) lo hi = decide (i ≤ hi) := by simp [numV, of_decide_eq_true h1]
          show Q (.bl (decide (i ≤ hi))) H
          rw [← e]
          exact k _ (Same.refl _)
        · have e : numV (.int i) lo hi = false := by
            have q : ¬ lo ≤ i := fun q => h1 (decide_eq_true q)
            simp [numV, q]
          rw [← e]
          exact k _ (Same.refl _)
end

section
variable {P : Program} {w : World} {K : PySem.W.Frag} {mg : Str → Option Value} {base : Heap} {Z : Fs}
def sp_law_odd (K : PySem.W.Frag) : Sp := fun vs H Q _ => ∃ (b l m : Addr) (ms : List V), vs = [.ref b, .ref m] ∧ Bag H b l ∧ H m = some (.lst ms) ∧ m ≠ b ∧ (∀ x ∈ ms, Okv K H b 3 x) ∧ ms.length ≤ 1000 ∧ ∀ (H' : Hp) (v : V), Stp b H H' → Bag H' b l → Okv K H' b 3 v → Q v H'
theorem ok_law_odd (T : Txt K w mg Z) : FnOk P w K mg base CX0 3 Z.a_law_odd Z.d_law_odd ["_law_bag_here", "_law_more"] (sp_law_odd K) := by
  have G_law_of : FnOk P w K mg base CX0 2 Z.a_law_of Z.d_law_of ["_law_bag_here", "_law_things"] (sp_law_of K) := ok_law_of T
  refine T.F_law_odd.ok sc_law_odd (fun vs H Q E h => ?_) (fun cdv A outer s H vs Q E hr h => ?_)
  · obtain ⟨b, l, m, ms, rfl, _⟩ := h
    rfl
  · obtain ⟨b, l, m, ms, rfl, B, hm, nm, hms, lms, k⟩ := h
    refine ⟨_, (pss_one (ps_ret (pe_call G_law_of (hr.mono (by omega)) (by rfl) T.m_law_of T.F_law_of.kp T.b_law_of .nil pass0 (pa_cons (pv 0) (pa_cons (pe_op op_cat (pe_lst (pa_cons pe_non (pa_cons pe_bl (pa_cons pe_bl (pa_cons pe_str (pa_cons pe_str (pa_cons (pe_un un_neg pe_int) (pa_cons pe_int (pa_cons (pe_tup pa_nil) (pa_cons (pe_lst pa_nil) (pa_cons (pe_tup (pa_cons pe_int pa_nil)) (pa_cons (pe_lst (pa_cons pe_str pa_nil)) (pa_cons pe_str (pa_cons (pe_tup (pa_cons pe_str (pa_cons pe_str pa_nil))) (pa_cons (pe_lst (pa_cons pe_non pa_nil)) pa_nil))))))))))))))) (pv 1)) pa_nil))))), ?_⟩
    refine ⟨.ref b, rfl, 1, rfl, Nat.zero_le _, fun p1 h1 => ?_⟩
    have n1 := B.ne h1
    have s1 : Same H (upd H p1 (.tup [])) := Same.new h1
    have e1 : (upd H p1 (.tup [])) p1 = some (.tup []) := upd_same
    generalize upd H p1 (.tup []) = H1 at s1 e1 ⊢
    refine ⟨Nat.zero_le _, fun p2 h2 => ?_⟩
    have n2 := (B.same s1).ne h2
    have s2 : Same H1 (upd H1 p2 (.lst [])) := Same.new h2
    have e2 : (upd H1 p2 (.lst [])) p2 = some (.lst []) := upd_same
    generalize upd H1 p2 (.lst []) = H2 at s2 e2 ⊢
    refine ⟨(by show 1 ≤ sizeLine; decide), fun p3 h3 => ?_⟩
    have n3 := (B.same (s1.trans s2)).ne h3
    have s3 : Same H2 (upd H2 p3 (.tup [V.int 1])) := Same.new h3
    have e3 : (upd H2 p3 (.tup [V.int 1])) p3 = some (.tup [V.int 1]) := upd_same
    generalize upd H2 p3 (.tup [V.int 1]) = H3 at s3 e3 ⊢
    refine ⟨(by show 1 ≤ sizeLine; decide), fun p4 h4 => ?_⟩
    have n4 := (B.same ((s1.trans s2).trans s3)).ne h4
    have s4 : Same H3 (upd H3 p4 (.lst [V.str "a"])) := Same.new h4
    have e4 : (upd H3 p4 (.lst [V.str "a"])) p4 = some (.lst [V.str "a"]) := upd_same
    generalize upd H3 p4 (.lst [V.str "a"]) = H4 at s4 e4 ⊢
    refine ⟨(by show 2 ≤ sizeLine; decide), fun p5 h5 => ?_⟩
    have n5 := (B.same (((s1.trans s2).trans s3).trans s4)).ne h5
    have s5 : Same H4 (upd H4 p5 (.tup [V.str "a", V.str "b"])) := Same.new h5
    have e5 : (upd H4 p5 (.tup [V.str "a", V.str "b"])) p5 = some (.tup [V.str "a", V.str "b"]) := upd_same
    generalize upd H4 p5 (.tup [V.str "a", V.str "b"]) = H5 at s5 e5 ⊢
    refine ⟨(by show 1 ≤ sizeLine; decide), fun p6 h6 => ?_⟩
    have n6 := (B.same ((((s1.trans s2).trans s3).trans s4).trans s5)).ne h6
    have s6 : Same H5 (upd H5 p6 (.lst [V.non])) := Same.new h6
    have e6 : (upd H5 p6 (.lst [V.non])) p6 = some (.lst [V.non]) := upd_same
    generalize upd H5 p6 (.lst [V.non]) = H6 at s6 e6 ⊢
    refine ⟨(by show 14 ≤ sizeLine; decide), fun p7 h7 => ?_⟩
    have s7 : Same H6 (upd H6 p7 (.lst [.non, .bl true, .bl false, .str "", .str "A", .int (-1), .int 999999999, .ref p1, .ref p2, .ref p3, .ref p4, .str "a b", .ref p5, .ref p6])) := Same.new h7
    have e7 : (upd H6 p7 (.lst [.non, .bl true, .bl false, .str "", .str "A", .int (-1), .int 999999999, .ref p1, .ref p2, .ref p3, .ref p4, .str "a b", .ref p5, .ref p6])) p7 = some (.lst [.non, .bl true, .bl false, .str "", .str "A", .int (-1), .int 999999999, .ref p1, .ref p2, .ref p3, .ref p4, .str "a b", .ref p5, .ref p6]) := upd_same
    generalize upd H6 p7 (.lst [.non, .bl true, .bl false, .str "", .str "A", .int (-1), .int 999999999, .ref p1, .ref p2, .ref p3, .ref p4, .str "a b", .ref p5, .ref p6]) = H7 at s7 e7 ⊢
    have t7 : Same H H7 := (((((s1.trans s2).trans s3).trans s4).trans s5).trans s6).trans s7
    refine ⟨.ref m, rfl, p7, m, _, ms, rfl, rfl, e7, t7 _ _ hm, (by show 14 + ms.length ≤ sizeLine; exact Nat.le_trans (Nat.add_le_add_left lms 14) (by decide)), fun p8 h8 => ?_⟩
    have n8 := (B.same t7).ne h8
    refine ⟨b, l, .ref p8, fun v => Okv K (upd H7 p8 (.lst ([.non, .bl true, .bl false, .str "", .str "A", .int (-1), .int 999999999, .ref p1, .ref p2, .ref p3, .ref p4, .str "a b", .ref p5, .ref p6] ++ ms))) b 3 v, rfl, (B.same t7).new h8, .lst n8 (SqL.of upd_same) (by simp) (by simp; omega) ?_, fun H' v s' B' ov => k _ _ ((Same.stp (t7.trans (Same.new h8))).trans s') B' (ov.stp s')⟩
    have s8 : Same H7 (upd H7 p8 (.lst ([.non, .bl true, .bl false, .str "", .str "A", .int (-1), .int 999999999, .ref p1, .ref p2, .ref p3, .ref p4, .str "a b", .ref p5, .ref p6] ++ ms))) := Same.new h8
    have u6 : Same H6 _ := s7.trans s8
    have u5 : Same H5 _ := s6.trans u6
    have u4 : Same H4 _ := s5.trans u5
    have u3 : Same H3 _ := s4.trans u4
    have u2 : Same H2 _ := s3.trans u3
    have u1 : Same H1 _ := s2.trans u2
    refine mema ?_ fun x hx => (hms x hx).stp (Same.stp (t7.trans s8))
    refine memc .non (memc .bl (memc .bl (memc (.lit (by decide +kernel)) (memc (.lit (by decide +kernel)) (memc .int (memc .int (memc ?_ (memc ?_ (memc ?_ (memc ?_ (memc (.lit (by decide +kernel)) (memc ?_ (mem1 ?_)))))))))))))
    · exact .tup0 n1 (SqT.of (u1 _ _ e1)) (by decide) mem0
    · exact .lst0 n2 (SqL.of (u2 _ _ e2)) (by decide) mem0
    · exact .tup0 n3 (SqT.of (u3 _ _ e3)) (by decide) (mem1 .int)
    · exact .lst0 n4 (SqL.of (u4 _ _ e4)) (by decide) (mem1 (.lit (by decide +kernel)))
    · exact .tup0 n5 (SqT.of (u5 _ _ e5)) (by decide) (memc (.lit (by decide +kernel)) (mem1 (.lit (by decide +kernel))))
    · exact .lst0 n6 (SqL.of (u6 _ _ e6)) (by decide) (mem1 .non)
end

/-! ### names and rows, as data -/
def Nm (z : Str) : Prop := 1 ≤ z.cps.size ∧ z.cps.size ≤ 6 ∧ z.cps.toList.all inL = true
theorem Nm.strK {z : Str} (h : Nm z) : StrK z := ⟨by have := h.2.1; omega, fun c m => by
  have q := List.all_eq_true.mp h.2.2 c m
  simp only [inL, Bool.and_eq_true, decide_eq_true_eq] at q
  omega⟩
/-- a code row; ts the names it may have -/
inductive CRow (ts : List Str) : List V → Prop where
  | put {r : V} {n : Int} (hr : r ∈ regs) (h0 : 0 ≤ n) (h1 : n ≤ 65535) : CRow ts [.str "put", r, .int n]
  | name {r : V} {t : Str} (hr : r ∈ regs) (ht : t ∈ ts) : CRow ts [.str "name", r, .str t]
  | ifzero {r : V} {t : Str} (hr : r ∈ regs) (ht : t ∈ ts) : CRow ts [.str "ifzero", r, .str t]
  | add {r s : V} (hr : r ∈ regs) (hs : s ∈ regs) : CRow ts [.str "add", r, s]
  | take {r s : V} (hr : r ∈ regs) (hs : s ∈ regs) : CRow ts [.str "take", r, s]
  | load {r s : V} {d : Int} (hr : r ∈ regs) (hs : s ∈ regs) (h0 : 0 ≤ d) (h1 : d ≤ 15) : CRow ts [.str "load", r, s, .int d]
  | store {r s : V} {d : Int} (hr : r ∈ regs) (hs : s ∈ regs) (h0 : 0 ≤ d) (h1 : d ≤ 15) : CRow ts [.str "store", r, s, .int d]
  | jump {t : Str} (ht : t ∈ ts) : CRow ts [.str "jump", .str t]
  | call {t : Str} (ht : t ∈ ts) : CRow ts [.str "call", .str t]
  | callby {r : V} (hr : r ∈ regs) : CRow ts [.str "callby", r]
  | out {r : V} (hr : r ∈ regs) : CRow ts [.str "out", r]
  | back : CRow ts [.str "back"]
  | halt : CRow ts [.str "halt"]
  | room {k : Int} (h0 : 1 ≤ k) (h1 : k ≤ 120) : CRow ts [.str "room", .int k]
/-- a data row -/
inductive DRow (ts : List Str) : List V → Prop where
  | word {n : Int} (h0 : 0 ≤ n) (h1 : n ≤ 65535) : DRow ts [.str "word", .int n]
  | address {t : Str} (ht : t ∈ ts) : DRow ts [.str "address", .str t]
  | room {k : Int} (h0 : 1 ≤ k) (h1 : k ≤ 120) : DRow ts [.str "room", .int k]
theorem Stp.putnew {b p : Addr} {H H' : Hp} {o : HO} (s : Stp b H H') (h : H p = none) : Stp b H (upd H' p o) := fun a u n e => by
  rw [upd_ne (ne_of_none e h)]
  exact s a u n e
theorem cut_to {cs : List Nat} {k : Int} (h : 0 ≤ k) : cutS (⟨cs.toArray⟩ : Str) none (some k) = ⟨(cs.take k.toNat).toArray⟩ := (C8.cutS_slice _ _ _).trans (SX.slice_to h)
theorem cut_from {cs : List Nat} {k : Int} (h : 0 ≤ k) : cutS (⟨cs.toArray⟩ : Str) (some k) none = ⟨(cs.drop k.toNat).toArray⟩ := (C8.cutS_slice _ _ _).trans (SX.slice_from h)
theorem cat_S (a b : List Nat) : (⟨a.toArray⟩ : Str) ++ (⟨b.toArray⟩ : Str) = ⟨(a ++ b).toArray⟩ := SX.S_cat a b
theorem len_S (a : List Nat) : (⟨a.toArray⟩ : Str).length = a.length := SX.S_len a
theorem map_er {α β : Type} (f : α → β) : ∀ (l : List α) (i : Nat), (l.map f).eraseIdx i = (l.eraseIdx i).map f
  | [], _ => rfl
  | _ :: _, 0 => rfl
  | a :: l, i + 1 => congrArg (f a :: ·) (map_er f l i)
theorem Thg.abc {K : PySem.W.Frag} {H : Hp} {b : Addr} : Thg K H b (.str "abcdefghijklmnopqrstuvwxyz") (fun v => ∃ c, v = .str ⟨#[c]⟩ ∧ inL c = true) :=
  .inl ⟨_, rfl, by decide +kernel, by decide +kernel, fun c m => ⟨c, rfl, by rw [← in_abc]; exact decide_eq_true m⟩⟩
section
variable {P : Program} {w : World} {K : PySem.W.Frag} {mg : Str → Option Value} {base : Heap} {Z : Fs}
/-! ### _law_titles -/
def sp_law_titles (K : PySem.W.Frag) : Sp := fun vs H Q _ => ∃ (b l : Addr), vs = [.ref b, .int 3] ∧ Bag H b l ∧ ∀ (H' : Hp) (p : Addr) (zs : List Str), Stp b H H' → Bag H' b l → H p = none → p ≠ b → p ≠ l → H' p = some (.lst (zs.map V.str)) → zs.length = 3 → (∀ z ∈ zs, Nm z) → Q (.ref p) H'
theorem ok_law_titles (T : Txt K w mg Z) : FnOk P w K mg base CX0 3 Z.a_law_titles Z.d_law_titles ["_law_bag_here", "_law_many"] (sp_law_titles K) := by
  have G_law_draw : FnOk P w K mg base CX0 1 Z.a_law_draw Z.d_law_draw ["_law_bag_here", "_law_sides"] sp_law_draw := ok_law_draw T
  have G_law_of : FnOk P w K mg base CX0 2 Z.a_law_of Z.d_law_of ["_law_bag_here", "_law_things"] (sp_law_of K) := ok_law_of T
  refine T.F_law_titles.ok sc_law_titles (fun vs H Q E h => ?_) (fun cdv A outer s H vs Q E hr h => ?_)
  · obtain ⟨b, l, rfl, _⟩ := h
    rfl
  · obtain ⟨b, l, rfl, B, k⟩ := h
    refine ⟨_, (pss_cons (ps_par (i := 2) (j := 3) (by rfl) sc_law_titles.nd rfl rfl (by decide) rfl rfl (pa_cons (pe_callTy (call_list_str1 rfl) (by rfl) T.n_list boot_list (pa_cons pe_str pa_nil)) (pa_cons (pe_lst pa_nil) pa_nil)) (by rfl))
      (pss_cons (ps_set (i := 4) sc_law_titles.nd rfl (Or.inl rfl) (pe_join pe_str (pe_lc (own := [("_law_k", 5)]) (g := gName 5) (tt := tYes) rfl sc_law_titles.nd (pi_range1 (by rfl) T.n_range (pa_cons (pe_call G_law_draw (hr.mono (by omega)) (by rfl) T.m_law_draw T.F_law_draw.kp T.b_law_draw .nil pass0 (pa_cons (pv 0) (pa_cons pe_int pa_nil))) pa_nil)) (blkOk_by (N := N_law_titles) (sc := defScope s_law_titles) (by decide +kernel)) (fun _ _ _ _ _ => pg_name (i := 5) sc_law_titles.nd rfl (Or.inl rfl)) (fun _ _ _ _ _ => pts_nil) (fun _ _ _ _ _ => (pe_call G_law_of (hr.mono (by omega)) (by rfl) T.m_law_of T.F_law_of.kp T.b_law_of .nil pass0 (pa_cons (pv 0) (pa_cons pe_str pa_nil)))))))
      (pss_cons (ps_set (i := 6) sc_law_titles.nd rfl (Or.inl rfl) (pe_call G_law_draw (hr.mono (by omega)) (by rfl) T.m_law_draw T.F_law_draw.kp T.b_law_draw .nil pass0 (pa_cons (pv 0) (pa_cons (pe_op op_add (pe_callB call_len (by rfl) T.n_len boot_len (pa_cons (pv 4) pa_nil)) pe_int) pa_nil))))
      (pss_cons (ps_for PassesOwn.never rfl (pi_range1 (by rfl) T.n_range (pa_cons (pv 1) pa_nil)) (pg_name (i := 5) sc_law_titles.nd rfl (Or.inl rfl)) (pss_one (ps_expr (pe_bm PySem.F.plainAttrs_list PySem.F.slot_list_append PySem.F.type_list_append mt_append (pv 3) (pa_cons (pe_op op_add_str (pe_op op_add_str (pe_slice sl_str (pv 4) po_none (po_some (pv 6))) (pe_bm PySem.F.plainAttrs_list PySem.F.slot_list_pop PySem.F.type_list_pop mt_popAt (pv 2) (pa_cons (pe_call G_law_draw (hr.mono (by omega)) (by rfl) T.m_law_draw T.F_law_draw.kp T.b_law_draw .nil pass0 (pa_cons (pv 0) (pa_cons (pe_callB call_len (by rfl) T.n_len boot_len (pa_cons (pv 2) pa_nil)) pa_nil))) pa_nil))) (pe_slice sl_str (pv 4) (po_some (pv 6)) po_none)) pa_nil)))))
      (pss_one (ps_ret (pv 3))))))), ?_⟩
    refine ⟨_, rfl, (by decide +kernel), fun p1 h1 => ⟨Nat.zero_le _, fun p2 h2 => ⟨_, _, rfl, ?_⟩⟩⟩
    have n1 := B.ne h1
    have l1 := B.nel h1
    have s1 : Same H (upd H p1 (.lst (("abcdefghijklmnopqrstuvwxyz" : Str).cps.toList.map fun c => V.str ⟨#[c]⟩))) := Same.new h1
    have e1 : (upd H p1 (.lst (("abcdefghijklmnopqrstuvwxyz" : Str).cps.toList.map fun c => V.str ⟨#[c]⟩))) p1 = some (.lst (("abcdefghijklmnopqrstuvwxyz" : Str).cps.toList.map fun c => V.str ⟨#[c]⟩)) := upd_same
    generalize upd H p1 (.lst (("abcdefghijklmnopqrstuvwxyz" : Str).cps.toList.map fun c => V.str ⟨#[c]⟩)) = H1 at s1 e1 h2 ⊢
    have B1 := B.same s1
    have n2 := B1.ne h2
    have l2 := B1.nel h2
    have n12 : p1 ≠ p2 := ne_of_none e1 h2
    have z2 : H p2 = none := s1.free h2
    have s2 : Same H1 (upd H1 p2 (.lst [])) := Same.new h2
    have e2 : (upd H1 p2 (.lst [])) p2 = some (.lst []) := upd_same
    generalize upd H1 p2 (.lst []) = H2 at s2 e2 ⊢
    replace e1 := s2 _ _ e1
    have B2 := B1.same s2
    have s02 : Stp b H H2 := Same.stp (s1.trans s2)
    clear s1 s2 B1 h2
    -- stem
    refine ⟨⟨_, rfl⟩, .ref b, rfl, b, l, 6, rfl, B2, by decide, by decide, fun H3 d s3 B3 g0 g1 => ⟨d, rfl, by omega, by omega, fun D hD => ?_⟩⟩
    have nD := B3.ne hD
    have lD := B3.nel hD
    refine lc_it walk_range (fun i H' => Bag H' b l ∧ Stp b H3 H' ∧ ∃ cs : List Nat, H' D = some (.lst ((cs.map fun c => (⟨#[c]⟩ : Str)).map V.str)) ∧ cs.length = i ∧ ∀ c ∈ cs, inL c = true) ⟨B3.new hD, Stp.new hD, [], upd_same, rfl, mem0⟩ (fun _ _ _ _ => True.intro) ?_ ?_
    · rintro j x H4 H5 hj ⟨B4, s4, cs, e4, lc, hc⟩ ⟨rfl, rfl⟩
      refine ⟨rfl, .ref b, rfl, b, l, _, _, rfl, B4, Thg.abc, fun H6 v s6 B6 hv => ?_⟩
      obtain ⟨c, rfl, hc4⟩ := hv
      refine ⟨_, s6 _ _ nD e4, ?_, B6.put nD lD, (s4.trans s6).putnew hD, cs ++ [c], ?_, ?_, mema hc (mem1 hc4)⟩
      · rw [List.length_map, List.length_map, lc]
        exact Nat.lt_of_lt_of_le (show j < 6 by omega) (by decide)
      · rw [upd_same]
        simp
      · simp [lc]
    rintro H4 ⟨B4, s4, cs, e4, lc, hc⟩
    refine ⟨_, D, cs.map fun c => (⟨#[c]⟩ : Str), rfl, rfl, .inl (SqL.of e4), ?_, ?_⟩
    · rw [len_ones, List.length_map, lc]
      show d.toNat + d.toNat * 0 ≤ 16777216
      omega
    rw [join_ones]
    have lc' : cs.length ≤ 5 := by omega
    replace s4 := s3.trans s4
    replace s02 := s02.trans s4
    replace e1 := s4 _ _ n1 e1
    replace e2 := s4 _ _ n2 e2
    clear e4 lc nD lD hD B3 s3 B2 s4 g0 g1
    -- spot
    refine ⟨.ref b, rfl, _, rfl, _, cs.length, rfl, ⟨by rw [len_S]; exact Nat.le_trans lc' (by decide), (len_S cs).symm⟩, _, _, rfl, rfl, b, l, _, rfl, B4, by omega, by omega, fun H5 sp s5 B5 q0 q1 => ?_⟩
    replace s02 := s02.trans s5
    replace e1 := s5 _ _ n1 e1
    replace e2 := s5 _ _ n2 e2
    clear s5 B4
    refine ⟨.int 3, rfl, 3, rfl, by decide, by decide, for_range (lo := 0) (n := 3) (fun i σ H' => ∃ (y5 : Option V) (ls : List Nat) (zs : List Str), σ = [some (.ref b), some (.int 3), some (.ref p1), some (.ref p2), some (.str ⟨cs.toArray⟩), y5, some (.int sp)] ∧ Bag H' b l ∧ Stp b H H' ∧
      H' p1 = some (.lst (ls.map fun c => V.str ⟨#[c]⟩)) ∧ ls.length + i = 26 ∧ (∀ c ∈ ls, inL c = true) ∧ H' p2 = some (.lst (zs.map V.str)) ∧ zs.length = i ∧ ∀ z ∈ zs, Nm z)
      ⟨_, _, [], rfl, B5, s02, e1, by decide +kernel, (fun c m => by rw [← in_abc]; exact decide_eq_true m), e2, rfl, mem0⟩ ?_ ?_⟩
    · rintro i σ H6 hi ⟨y5, ls, zs, rfl, B6, s6, f1, ll, hl, f2, lz, hz⟩
      refine ⟨.ref p2, rfl, .inl ⟨rfl, _, SqL.of f2⟩, _, rfl, .int sp, rfl, sp, rfl, _, rfl, (by rw [len_S]; exact Nat.le_trans lc' (by decide)), ?_⟩
      rw [cut_to q0]
      refine ⟨.ref p1, rfl, .inl ⟨rfl, _, SqL.of f1⟩, .ref b, rfl, .ref p1, rfl, .ref p1, ls.length, rfl, .inl ⟨_, SqL.of f1, by rw [List.length_map]⟩, b, l, _, rfl, B6, by omega, by omega, fun H7 d s7 B7 d0 d1 => ?_⟩
      have hd : d.toNat < ls.length := by omega
      refine ⟨p1, _, d, d.toNat, .str ⟨#[ls[d.toNat]]⟩, rfl, rfl, s7 _ _ n1 f1, by omega, by omega, (by rw [List.length_map]; exact seqIndex_of d0 (by omega)), (by rw [List.getElem?_map, List.getElem?_eq_getElem hd]; rfl), ?_⟩
      refine ⟨_, _, rfl, rfl, (by rw [len_S]; show _ + 1 ≤ sizeLine; exact Nat.le_trans (show (cs.take sp.toNat).length + 1 ≤ 100 by rw [List.length_take]; omega) (by decide)), ?_⟩
      rw [show (⟨#[ls[d.toNat]]⟩ : Str) = ⟨[ls[d.toNat]].toArray⟩ from rfl, cat_S]
      refine ⟨_, rfl, .int sp, rfl, sp, rfl, _, rfl, (by rw [len_S]; exact Nat.le_trans lc' (by decide)), ?_⟩
      rw [cut_from q0]
      refine ⟨_, _, rfl, rfl, (by rw [len_S, len_S]; exact Nat.le_trans (show (cs.take sp.toNat ++ [ls[d.toNat]]).length + (cs.drop sp.toNat).length ≤ 100 by rw [List.length_append, List.length_take, List.length_drop, List.length_singleton]; omega) (by decide)), ?_⟩
      rw [cat_S]
      have g2 : (upd H7 p1 (.lst ((ls.map fun c => V.str ⟨#[c]⟩).eraseIdx d.toNat))) p2 = some (.lst (zs.map V.str)) := by
        rw [upd_ne n12.symm]
        exact s7 _ _ n2 f2
      refine ⟨p2, _, _, rfl, rfl, g2, (by rw [List.length_map, lz]; exact Nat.lt_of_lt_of_le (show i < 3 from hi) (by decide)), ?_⟩
      refine ⟨_, ls.eraseIdx d.toNat, zs ++ [_], rfl, (B7.put n1 l1).put n2 l2, ((s6.trans s7).putnew h1).putnew z2, ?_, ?_, fun c m => hl c (List.mem_of_mem_eraseIdx m), by rw [upd_same, List.map_append]; rfl, by rw [List.length_append, lz]; rfl, mema hz (mem1 ?_)⟩
      · rw [upd_ne n12, upd_same]
        rw [map_er]
      · rw [List.length_eraseIdx_of_lt hd]
        omega
      · refine ⟨?_, ?_, ?_⟩
        · simp
          omega
        · simp
          omega
        · rw [List.all_eq_true]
          intro c m
          have m : c ∈ (cs.take sp.toNat ++ [ls[d.toNat]]) ++ cs.drop sp.toNat := by simpa using m
          rcases List.mem_append.mp m with m | m
          · rcases List.mem_append.mp m with m | m
            · exact hc c (List.mem_of_mem_take m)
            · rw [List.mem_singleton.mp m]
              exact hl _ (List.getElem_mem hd)
          · exact hc c (List.mem_of_mem_drop m)
    · rintro σ H6 ⟨y5, ls, zs, rfl, B6, s6, f1, ll, hl, f2, lz, hz⟩
      exact ⟨.ref p2, rfl, k _ _ zs s6 B6 z2 n2 l2 f2 lz hz⟩
/-! ### _law_number, _law_r -/
def sp_law_number : Sp := fun vs H Q _ => ∃ (b l : Addr), vs = [.ref b] ∧ Bag H b l ∧ ∀ (H' : Hp) (i : Int), Stp b H H' → Bag H' b l → 0 ≤ i → i ≤ 65535 → Q (.int i) H'
theorem ok_law_number (T : Txt K w mg Z) : FnOk P w K mg base CX0 3 Z.a_law_number Z.d_law_number ["_law_bag_here"] sp_law_number := by
  have G_law_draw : FnOk P w K mg base CX0 1 Z.a_law_draw Z.d_law_draw ["_law_bag_here", "_law_sides"] sp_law_draw := ok_law_draw T
  have G_law_of : FnOk P w K mg base CX0 2 Z.a_law_of Z.d_law_of ["_law_bag_here", "_law_things"] (sp_law_of K) := ok_law_of T
  refine T.F_law_number.ok sc_law_number (fun vs H Q E h => ?_) (fun cdv A outer s H vs Q E hr h => ?_)
  · obtain ⟨b, l, rfl, _⟩ := h
    rfl
  · obtain ⟨b, l, rfl, B, k⟩ := h
    refine ⟨_, (pss_one (ps_ret (pe_call G_law_of (hr.mono (by omega)) (by rfl) T.m_law_of T.F_law_of.kp T.b_law_of .nil pass0 (pa_cons (pv 0) (pa_cons (pe_lst (pa_cons pe_int (pa_cons pe_int (pa_cons pe_int (pa_cons pe_int (pa_cons pe_int (pa_cons pe_int (pa_cons pe_int (pa_cons (pe_call G_law_draw (hr.mono (by omega)) (by rfl) T.m_law_draw T.F_law_draw.kp T.b_law_draw .nil pass0 (pa_cons (pv 0) (pa_cons pe_int pa_nil))) (pa_cons (pe_call G_law_draw (hr.mono (by omega)) (by rfl) T.m_law_draw T.F_law_draw.kp T.b_law_draw .nil pass0 (pa_cons (pv 0) (pa_cons pe_int pa_nil))) (pa_cons (pe_call G_law_draw (hr.mono (by omega)) (by rfl) T.m_law_draw T.F_law_draw.kp T.b_law_draw .nil pass0 (pa_cons (pv 0) (pa_cons pe_int pa_nil))) pa_nil))))))))))) pa_nil))))), ?_⟩
    refine ⟨.ref b, rfl, .ref b, rfl, b, l, 300, rfl, B, by decide, by decide, fun H1 d1 s1 B1 _ _ => ?_⟩
    refine ⟨.ref b, rfl, b, l, 65536, rfl, B1, by decide, by decide, fun H2 d2 s2 B2 _ _ => ?_⟩
    refine ⟨.ref b, rfl, b, l, 65536, rfl, B2, by decide, by decide, fun H3 d3 s3 B3 _ _ => ?_⟩
    refine ⟨(by show 10 ≤ sizeLine; decide), fun p hp => ?_⟩
    refine ⟨b, l, .ref p, fun v => ∃ i, v = .int i ∧ 0 ≤ i ∧ i ≤ 65535, rfl, B3.new hp, .lst (B3.ne hp) (SqL.of upd_same) (by show 0 < 10; decide) (by show 10 ≤ 100000; decide) ?_, fun H4 v s4 B4 hv => ?_⟩
    · exact memc ⟨_, rfl, by decide, by decide⟩ (memc ⟨_, rfl, by decide, by decide⟩ (memc ⟨_, rfl, by decide, by decide⟩ (memc ⟨_, rfl, by decide, by decide⟩ (memc ⟨_, rfl, by decide, by decide⟩ (memc ⟨_, rfl, by decide, by decide⟩ (memc ⟨_, rfl, by decide, by decide⟩ (memc ⟨_, rfl, by omega, by omega⟩ (memc ⟨_, rfl, by omega, by omega⟩ (mem1 ⟨_, rfl, by omega, by omega⟩)))))))))
    · obtain ⟨i, rfl, i0, i1⟩ := hv
      exact k _ _ ((((s1.trans s2).trans s3).trans (Stp.new hp)).trans s4) B4 i0 i1
def sp_law_r : Sp := fun vs H Q _ => ∃ (b l : Addr), vs = [.ref b] ∧ Bag H b l ∧ ∀ (H' : Hp) (v : V), Stp b H H' → Bag H' b l → v ∈ regs → Q v H'
theorem ok_law_r (T : Txt K w mg Z) : FnOk P w K mg base CX0 3 Z.a_law_r Z.d_law_r ["_law_bag_here"] sp_law_r := by
  have G_law_of : FnOk P w K mg base CX0 2 Z.a_law_of Z.d_law_of ["_law_bag_here", "_law_things"] (sp_law_of K) := ok_law_of T
  refine T.F_law_r.ok sc_law_r (fun vs H Q E h => ?_) (fun cdv A outer s H vs Q E hr h => ?_)
  · obtain ⟨b, l, rfl, _⟩ := h
    rfl
  · obtain ⟨b, l, rfl, B, k⟩ := h
    refine ⟨_, (pss_one (ps_ret (pe_call G_law_of (hr.mono (by omega)) (by rfl) T.m_law_of T.F_law_of.kp T.b_law_of .nil pass0 (pa_cons (pv 0) (pa_cons (pe_lst (pa_cons pe_str (pa_cons pe_str (pa_cons pe_str pa_nil)))) pa_nil))))), ?_⟩
    refine ⟨.ref b, rfl, (by show 3 ≤ sizeLine; decide), fun p hp => ?_⟩
    exact ⟨b, l, .ref p, fun v => v ∈ regs, rfl, B.new hp, .lst (B.ne hp) (SqL.of upd_same) (by show 0 < 3; decide) (by show 3 ≤ 100000; decide) (fun v m => m), fun H4 v s4 B4 hv => k _ _ ((Stp.new hp).trans s4) B4 hv⟩
end

section
variable {P : Program} {w : World} {K : PySem.W.Frag} {mg : Str → Option Value} {base : Heap} {Z : Fs}
/-! ### drawn rows -/
/-- the names at hand: a list of texts, not the bag -/
def Tls (H : Hp) (b t : Addr) (ts : List Str) : Prop := H t = some (.lst (ts.map V.str)) ∧ t ≠ b ∧ 0 < ts.length ∧ ts.length ≤ 1000
theorem Tls.stp {H H' : Hp} {b t : Addr} {ts : List Str} (s : Stp b H H') (h : Tls H b t ts) : Tls H' b t ts := ⟨s _ _ h.2.1 h.1, h.2⟩
theorem Tls.thg {H : Hp} {b t : Addr} {ts : List Str} (h : Tls H b t ts) : Thg K H b (.ref t) (fun v => ∃ z, v = .str z ∧ z ∈ ts) :=
  .lst h.2.1 (SqL.of h.1) (by rw [List.length_map]; exact h.2.2.1) (by rw [List.length_map]; exact Nat.le_trans h.2.2.2 (by decide)) fun v m => by
    obtain ⟨z, hz, rfl⟩ := List.mem_map.mp m
    exact ⟨z, rfl, hz⟩
def sp_law_code_row : Sp := fun vs H Q _ => ∃ (b l t : Addr) (ts : List Str), vs = [.ref b, .ref t] ∧ Bag H b l ∧ Tls H b t ts ∧ ∀ (H' : Hp) (a : Addr) (xs : List V), Stp b H H' → Bag H' b l → H' a = some (.tup xs) → a ≠ b → CRow ts xs → Q (.ref a) H'
theorem ok_law_code_row (T : Txt K w mg Z) : FnOk P w K mg base CX0 4 Z.a_law_code_row Z.d_law_code_row ["_law_bag_here", "_law_titles_here"] sp_law_code_row := by
  have G_law_draw : FnOk P w K mg base CX0 1 Z.a_law_draw Z.d_law_draw ["_law_bag_here", "_law_sides"] sp_law_draw := ok_law_draw T
  have G_law_of : FnOk P w K mg base CX0 2 Z.a_law_of Z.d_law_of ["_law_bag_here", "_law_things"] (sp_law_of K) := ok_law_of T
  have G_law_number : FnOk P w K mg base CX0 3 Z.a_law_number Z.d_law_number ["_law_bag_here"] sp_law_number := ok_law_number T
  have G_law_r : FnOk P w K mg base CX0 3 Z.a_law_r Z.d_law_r ["_law_bag_here"] sp_law_r := ok_law_r T
  refine T.F_law_code_row.ok sc_law_code_row (fun vs H Q E h => ?_) (fun cdv A outer s H vs Q E hr h => ?_)
  · obtain ⟨b, l, t, ts, rfl, _⟩ := h
    rfl
  · obtain ⟨b, l, t, ts, rfl, B, TT, k⟩ := h
    refine ⟨_, (pss_cons (ps_set (i := 2) sc_law_code_row.nd rfl (Or.inl rfl) (pe_call G_law_draw (hr.mono (by omega)) (by rfl) T.m_law_draw T.F_law_draw.kp T.b_law_draw .nil pass0 (pa_cons (pv 0) (pa_cons pe_int pa_nil))))
      (pss_cons (ps_if (pt_cmpR op_lt (pv 2) pe_int (nomark _)) (pss_one (ps_ret (pe_tup (pa_cons pe_str (pa_cons (pe_call G_law_r (hr.mono (by omega)) (by rfl) T.m_law_r T.F_law_r.kp T.b_law_r .nil pass0 (pa_cons (pv 0) pa_nil)) (pa_cons (pe_call G_law_number (hr.mono (by omega)) (by rfl) T.m_law_number T.F_law_number.kp T.b_law_number .nil pass0 (pa_cons (pv 0) pa_nil)) pa_nil)))))) pss_nil)
      (pss_cons (ps_if (pt_cmpR op_lt (pv 2) pe_int (nomark _)) (pss_one (ps_ret (pe_tup (pa_cons (pe_call G_law_of (hr.mono (by omega)) (by rfl) T.m_law_of T.F_law_of.kp T.b_law_of .nil pass0 (pa_cons (pv 0) (pa_cons (pe_lst (pa_cons pe_str (pa_cons pe_str pa_nil))) pa_nil))) (pa_cons (pe_call G_law_r (hr.mono (by omega)) (by rfl) T.m_law_r T.F_law_r.kp T.b_law_r .nil pass0 (pa_cons (pv 0) pa_nil)) (pa_cons (pe_call G_law_of (hr.mono (by omega)) (by rfl) T.m_law_of T.F_law_of.kp T.b_law_of .nil pass0 (pa_cons (pv 0) (pa_cons (pv 1) pa_nil))) pa_nil)))))) pss_nil)
      (pss_cons (ps_if (pt_cmpR op_lt (pv 2) pe_int (nomark _)) (pss_one (ps_ret (pe_tup (pa_cons (pe_call G_law_of (hr.mono (by omega)) (by rfl) T.m_law_of T.F_law_of.kp T.b_law_of .nil pass0 (pa_cons (pv 0) (pa_cons (pe_lst (pa_cons pe_str (pa_cons pe_str pa_nil))) pa_nil))) (pa_cons (pe_call G_law_r (hr.mono (by omega)) (by rfl) T.m_law_r T.F_law_r.kp T.b_law_r .nil pass0 (pa_cons (pv 0) pa_nil)) (pa_cons (pe_call G_law_r (hr.mono (by omega)) (by rfl) T.m_law_r T.F_law_r.kp T.b_law_r .nil pass0 (pa_cons (pv 0) pa_nil)) pa_nil)))))) pss_nil)
      (pss_cons (ps_if (pt_cmpR op_lt (pv 2) pe_int (nomark _)) (pss_one (ps_ret (pe_tup (pa_cons (pe_call G_law_of (hr.mono (by omega)) (by rfl) T.m_law_of T.F_law_of.kp T.b_law_of .nil pass0 (pa_cons (pv 0) (pa_cons (pe_lst (pa_cons pe_str (pa_cons pe_str pa_nil))) pa_nil))) (pa_cons (pe_call G_law_r (hr.mono (by omega)) (by rfl) T.m_law_r T.F_law_r.kp T.b_law_r .nil pass0 (pa_cons (pv 0) pa_nil)) (pa_cons (pe_call G_law_r (hr.mono (by omega)) (by rfl) T.m_law_r T.F_law_r.kp T.b_law_r .nil pass0 (pa_cons (pv 0) pa_nil)) (pa_cons (pe_call G_law_of (hr.mono (by omega)) (by rfl) T.m_law_of T.F_law_of.kp T.b_law_of .nil pass0 (pa_cons (pv 0) (pa_cons (pe_lst (pa_cons pe_int (pa_cons pe_int (pa_cons (pe_call G_law_draw (hr.mono (by omega)) (by rfl) T.m_law_draw T.F_law_draw.kp T.b_law_draw .nil pass0 (pa_cons (pv 0) (pa_cons pe_int pa_nil))) pa_nil)))) pa_nil))) pa_nil))))))) pss_nil)
      (pss_cons (ps_if (pt_cmpR op_lt (pv 2) pe_int (nomark _)) (pss_one (ps_ret (pe_tup (pa_cons (pe_call G_law_of (hr.mono (by omega)) (by rfl) T.m_law_of T.F_law_of.kp T.b_law_of .nil pass0 (pa_cons (pv 0) (pa_cons (pe_lst (pa_cons pe_str (pa_cons pe_str pa_nil))) pa_nil))) (pa_cons (pe_call G_law_of (hr.mono (by omega)) (by rfl) T.m_law_of T.F_law_of.kp T.b_law_of .nil pass0 (pa_cons (pv 0) (pa_cons (pv 1) pa_nil))) pa_nil))))) pss_nil)
      (pss_cons (ps_if (pt_cmpR op_lt (pv 2) pe_int (nomark _)) (pss_one (ps_ret (pe_tup (pa_cons (pe_call G_law_of (hr.mono (by omega)) (by rfl) T.m_law_of T.F_law_of.kp T.b_law_of .nil pass0 (pa_cons (pv 0) (pa_cons (pe_lst (pa_cons pe_str (pa_cons pe_str pa_nil))) pa_nil))) (pa_cons (pe_call G_law_r (hr.mono (by omega)) (by rfl) T.m_law_r T.F_law_r.kp T.b_law_r .nil pass0 (pa_cons (pv 0) pa_nil)) pa_nil))))) pss_nil)
      (pss_one (ps_ret (pe_call G_law_of (hr.mono (by omega)) (by rfl) T.m_law_of T.F_law_of.kp T.b_law_of .nil pass0 (pa_cons (pv 0) (pa_cons (pe_lst (pa_cons (pe_tup (pa_cons pe_str pa_nil)) (pa_cons (pe_tup (pa_cons pe_str pa_nil)) (pa_cons (pe_tup (pa_cons pe_str (pa_cons (pe_call G_law_of (hr.mono (by omega)) (by rfl) T.m_law_of T.F_law_of.kp T.b_law_of .nil pass0 (pa_cons (pv 0) (pa_cons (pe_lst (pa_cons pe_int (pa_cons pe_int (pa_cons pe_int (pa_cons pe_int pa_nil))))) pa_nil))) pa_nil))) pa_nil)))) pa_nil)))))))))))), ?_⟩
    refine ⟨.ref b, rfl, b, l, 14, rfl, B, by decide, by decide, fun H0 d s0 B0 _ _ => ?_⟩
    have T0 := TT.stp s0
    refine ⟨_, rfl, _, _, rfl, rfl, _, rfl, ite2 (fun _ => ?_) (fun _ => ?_)⟩
    · -- put
      refine ⟨.ref b, rfl, b, l, rfl, B0, fun H1 r s1 B1 hr1 => ⟨.ref b, rfl, b, l, rfl, B1, fun H2 n s2 B2 n0 n1 => ⟨(by show 3 ≤ sizeLine; decide), fun p hp => ?_⟩⟩⟩
      exact k _ p _ (((s0.trans s1).trans s2).trans (Stp.new hp)) (B2.new hp) upd_same (B2.ne hp) (.put hr1 n0 n1)
    refine ⟨_, rfl, _, _, rfl, rfl, _, rfl, ite2 (fun _ => ?_) (fun _ => ?_)⟩
    · -- name, ifzero
      refine ⟨.ref b, rfl, (by show 2 ≤ sizeLine; decide), fun q hq => ⟨b, l, .ref q, fun v => v ∈ [V.str "name", V.str "ifzero"], rfl, B0.new hq, .lst (B0.ne hq) (SqL.of upd_same) (by show 0 < 2; decide) (by show 2 ≤ 100000; decide) (fun v m => m), fun H1 v s1 B1 hv => ?_⟩⟩
      replace s1 := (Stp.new hq).trans s1
      refine ⟨.ref b, rfl, b, l, rfl, B1, fun H2 r s2 B2 hr2 => ?_⟩
      have T2 := (T0.stp s1).stp s2
      refine ⟨.ref b, rfl, .ref t, rfl, b, l, .ref t, _, rfl, B2, T2.thg, fun H3 u s3 B3 hu => ?_⟩
      obtain ⟨z, rfl, hz⟩ := hu
      refine ⟨(by show 3 ≤ sizeLine; decide), fun p hp => ?_⟩
      have ss := (((s0.trans s1).trans s2).trans s3).trans (Stp.new (o := .tup [v, r, .str z]) hp)
      rcases List.mem_cons.mp hv with rfl | hv
      · exact k _ p _ ss (B3.new hp) upd_same (B3.ne hp) (.name hr2 hz)
      · rw [List.mem_singleton.mp hv] at ss ⊢
        exact k _ p _ ss (B3.new hp) upd_same (B3.ne hp) (.ifzero hr2 hz)
    refine ⟨_, rfl, _, _, rfl, rfl, _, rfl, ite2 (fun _ => ?_) (fun _ => ?_)⟩
    · -- add, take
      refine ⟨.ref b, rfl, (by show 2 ≤ sizeLine; decide), fun q hq => ⟨b, l, .ref q, fun v => v ∈ [V.str "add", V.str "take"], rfl, B0.new hq, .lst (B0.ne hq) (SqL.of upd_same) (by show 0 < 2; decide) (by show 2 ≤ 100000; decide) (fun v m => m), fun H1 v s1 B1 hv => ?_⟩⟩
      replace s1 := (Stp.new hq).trans s1
      refine ⟨.ref b, rfl, b, l, rfl, B1, fun H2 r s2 B2 hr2 => ⟨.ref b, rfl, b, l, rfl, B2, fun H3 r3 s3 B3 hr3 => ⟨(by show 3 ≤ sizeLine; decide), fun p hp => ?_⟩⟩⟩
      have ss := (((s0.trans s1).trans s2).trans s3).trans (Stp.new (o := .tup [v, r, r3]) hp)
      rcases List.mem_cons.mp hv with rfl | hv
      · exact k _ p _ ss (B3.new hp) upd_same (B3.ne hp) (.add hr2 hr3)
      · rw [List.mem_singleton.mp hv] at ss ⊢
        exact k _ p _ ss (B3.new hp) upd_same (B3.ne hp) (.take hr2 hr3)
    refine ⟨_, rfl, _, _, rfl, rfl, _, rfl, ite2 (fun _ => ?_) (fun _ => ?_)⟩
    · -- load, store
      refine ⟨.ref b, rfl, (by show 2 ≤ sizeLine; decide), fun q hq => ⟨b, l, .ref q, fun v => v ∈ [V.str "load", V.str "store"], rfl, B0.new hq, .lst (B0.ne hq) (SqL.of upd_same) (by show 0 < 2; decide) (by show 2 ≤ 100000; decide) (fun v m => m), fun H1 v s1 B1 hv => ?_⟩⟩
      replace s1 := (Stp.new hq).trans s1
      refine ⟨.ref b, rfl, b, l, rfl, B1, fun H2 r s2 B2 hr2 => ⟨.ref b, rfl, b, l, rfl, B2, fun H3 r3 s3 B3 hr3 => ?_⟩⟩
      refine ⟨.ref b, rfl, .ref b, rfl, b, l, 16, rfl, B3, by decide, by decide, fun H4 d4 s4 B4 g0 g1 => ⟨(by show 3 ≤ sizeLine; decide), fun q4 hq4 => ?_⟩⟩
      refine ⟨b, l, .ref q4, fun v => ∃ i, v = .int i ∧ 0 ≤ i ∧ i ≤ 15, rfl, B4.new hq4, .lst (B4.ne hq4) (SqL.of upd_same) (by show 0 < 3; decide) (by show 3 ≤ 100000; decide) (memc ⟨_, rfl, by decide, by decide⟩ (memc ⟨_, rfl, by decide, by decide⟩ (mem1 ⟨_, rfl, by omega, by omega⟩))), fun H5 u s5 B5 hu => ?_⟩
      obtain ⟨i, rfl, i0, i1⟩ := hu
      replace s5 := (s4.trans (Stp.new hq4)).trans s5
      refine ⟨(by show 4 ≤ sizeLine; decide), fun p hp => ?_⟩
      have ss := ((((s0.trans s1).trans s2).trans s3).trans s5).trans (Stp.new (o := .tup [v, r, r3, .int i]) hp)
      rcases List.mem_cons.mp hv with rfl | hv
      · exact k _ p _ ss (B5.new hp) upd_same (B5.ne hp) (.load hr2 hr3 i0 i1)
      · rw [List.mem_singleton.mp hv] at ss ⊢
        exact k _ p _ ss (B5.new hp) upd_same (B5.ne hp) (.store hr2 hr3 i0 i1)
    refine ⟨_, rfl, _, _, rfl, rfl, _, rfl, ite2 (fun _ => ?_) (fun _ => ?_)⟩
    · -- jump, call
      refine ⟨.ref b, rfl, (by show 2 ≤ sizeLine; decide), fun q hq => ⟨b, l, .ref q, fun v => v ∈ [V.str "jump", V.str "call"], rfl, B0.new hq, .lst (B0.ne hq) (SqL.of upd_same) (by show 0 < 2; decide) (by show 2 ≤ 100000; decide) (fun v m => m), fun H1 v s1 B1 hv => ?_⟩⟩
      replace s1 := (Stp.new hq).trans s1
      have T1 := T0.stp s1
      refine ⟨.ref b, rfl, .ref t, rfl, b, l, .ref t, _, rfl, B1, T1.thg, fun H3 u s3 B3 hu => ?_⟩
      obtain ⟨z, rfl, hz⟩ := hu
      refine ⟨(by show 2 ≤ sizeLine; decide), fun p hp => ?_⟩
      have ss := ((s0.trans s1).trans s3).trans (Stp.new (o := .tup [v, .str z]) hp)
      rcases List.mem_cons.mp hv with rfl | hv
      · exact k _ p _ ss (B3.new hp) upd_same (B3.ne hp) (.jump hz)
      · rw [List.mem_singleton.mp hv] at ss ⊢
        exact k _ p _ ss (B3.new hp) upd_same (B3.ne hp) (.call hz)
    refine ⟨_, rfl, _, _, rfl, rfl, _, rfl, ite2 (fun _ => ?_) (fun _ => ?_)⟩
    · -- callby, out
      refine ⟨.ref b, rfl, (by show 2 ≤ sizeLine; decide), fun q hq => ⟨b, l, .ref q, fun v => v ∈ [V.str "callby", V.str "out"], rfl, B0.new hq, .lst (B0.ne hq) (SqL.of upd_same) (by show 0 < 2; decide) (by show 2 ≤ 100000; decide) (fun v m => m), fun H1 v s1 B1 hv => ?_⟩⟩
      replace s1 := (Stp.new hq).trans s1
      refine ⟨.ref b, rfl, b, l, rfl, B1, fun H2 r s2 B2 hr2 => ⟨(by show 2 ≤ sizeLine; decide), fun p hp => ?_⟩⟩
      have ss := ((s0.trans s1).trans s2).trans (Stp.new (o := .tup [v, r]) hp)
      rcases List.mem_cons.mp hv with rfl | hv
      · exact k _ p _ ss (B2.new hp) upd_same (B2.ne hp) (.callby hr2)
      · rw [List.mem_singleton.mp hv] at ss ⊢
        exact k _ p _ ss (B2.new hp) upd_same (B2.ne hp) (.out hr2)
    · -- back, halt, room
      refine ⟨.ref b, rfl, (by show 1 ≤ sizeLine; decide), fun p1 h1 => ?_⟩
      have n1 := B0.ne h1
      have s1 : Same H0 (upd H0 p1 (.tup [V.str "back"])) := Same.new h1
      have e1 : (upd H0 p1 (.tup [V.str "back"])) p1 = some (.tup [V.str "back"]) := upd_same
      generalize upd H0 p1 (.tup [V.str "back"]) = H1 at s1 e1 ⊢
      have B1 := B0.same s1
      refine ⟨(by show 1 ≤ sizeLine; decide), fun p2 h2 => ?_⟩
      have n2 := B1.ne h2
      have s2 : Same H1 (upd H1 p2 (.tup [V.str "halt"])) := Same.new h2
      have e2 : (upd H1 p2 (.tup [V.str "halt"])) p2 = some (.tup [V.str "halt"]) := upd_same
      generalize upd H1 p2 (.tup [V.str "halt"]) = H2 at s2 e2 ⊢
      have B2 := B1.same s2
      refine ⟨.ref b, rfl, (by show 4 ≤ sizeLine; decide), fun q hq => ⟨b, l, .ref q, fun v => ∃ i, v = .int i ∧ 1 ≤ i ∧ i ≤ 120, rfl, B2.new hq, .lst (B2.ne hq) (SqL.of upd_same) (by show 0 < 4; decide) (by show 4 ≤ 100000; decide) (memc ⟨_, rfl, by decide, by decide⟩ (memc ⟨_, rfl, by decide, by decide⟩ (memc ⟨_, rfl, by decide, by decide⟩ (mem1 ⟨_, rfl, by decide, by decide⟩)))), fun H3 u s3 B3 hu => ?_⟩⟩
      obtain ⟨i, rfl, i0, i1⟩ := hu
      replace s3 := (Stp.new hq).trans s3
      refine ⟨(by show 2 ≤ sizeLine; decide), fun p3 h3 => ?_⟩
      have n3 := B3.ne h3
      have s4 : Same H3 (upd H3 p3 (.tup [V.str "room", V.int i])) := Same.new h3
      have e4 : (upd H3 p3 (.tup [V.str "room", V.int i])) p3 = some (.tup [V.str "room", V.int i]) := upd_same
      generalize upd H3 p3 (.tup [V.str "room", V.int i]) = H4 at s4 e4 ⊢
      have B4 := B3.same s4
      refine ⟨(by show 3 ≤ sizeLine; decide), fun q4 hq4 => ?_⟩
      have u1 : Stp b H0 H4 := ((Same.stp (s1.trans s2)).trans s3).trans (Same.stp s4)
      have f2 : H4 p2 = some (.tup [V.str "halt"]) := s4 _ _ (s3 _ _ n2 e2)
      have f1 : H4 p1 = some (.tup [V.str "back"]) := s4 _ _ (s3 _ _ n1 (s2 _ _ e1))
      refine ⟨b, l, .ref q4, fun v => ∃ (a : Addr) (xs : List V), v = .ref a ∧ H4 a = some (.tup xs) ∧ a ≠ b ∧ CRow ts xs, rfl, B4.new hq4, .lst (B4.ne hq4) (SqL.of upd_same) (by show 0 < 3; decide) (by show 3 ≤ 100000; decide) (memc ⟨_, _, rfl, f1, n1, .back⟩ (memc ⟨_, _, rfl, f2, n2, .halt⟩ (mem1 ⟨_, _, rfl, e4, n3, .room i0 i1⟩))), fun H5 u s5 B5 hu => ?_⟩
      obtain ⟨a, xs, rfl, ea, na, hx⟩ := hu
      exact k _ a xs (((s0.trans u1).trans (Stp.new hq4)).trans s5) B5 (s5 _ _ na ((Stp.new hq4) _ _ na ea)) na hx
def sp_law_data_row : Sp := fun vs H Q _ => ∃ (b l t : Addr) (ts : List Str), vs = [.ref b, .ref t] ∧ Bag H b l ∧ Tls H b t ts ∧ ∀ (H' : Hp) (a : Addr) (xs : List V), Stp b H H' → Bag H' b l → H' a = some (.tup xs) → a ≠ b → DRow ts xs → Q (.ref a) H'
theorem ok_law_data_row (T : Txt K w mg Z) : FnOk P w K mg base CX0 4 Z.a_law_data_row Z.d_law_data_row ["_law_bag_here", "_law_titles_here"] sp_law_data_row := by
  have G_law_draw : FnOk P w K mg base CX0 1 Z.a_law_draw Z.d_law_draw ["_law_bag_here", "_law_sides"] sp_law_draw := ok_law_draw T
  have G_law_of : FnOk P w K mg base CX0 2 Z.a_law_of Z.d_law_of ["_law_bag_here", "_law_things"] (sp_law_of K) := ok_law_of T
  have G_law_number : FnOk P w K mg base CX0 3 Z.a_law_number Z.d_law_number ["_law_bag_here"] sp_law_number := ok_law_number T
  refine T.F_law_data_row.ok sc_law_data_row (fun vs H Q E h => ?_) (fun cdv A outer s H vs Q E hr h => ?_)
  · obtain ⟨b, l, t, ts, rfl, _⟩ := h
    rfl
  · obtain ⟨b, l, t, ts, rfl, B, TT, k⟩ := h
    refine ⟨_, (pss_cons (ps_set (i := 2) sc_law_data_row.nd rfl (Or.inl rfl) (pe_call G_law_draw (hr.mono (by omega)) (by rfl) T.m_law_draw T.F_law_draw.kp T.b_law_draw .nil pass0 (pa_cons (pv 0) (pa_cons pe_int pa_nil))))
      (pss_cons (ps_if (pt_cmpR op_eq (pv 2) pe_int (nomark _)) (pss_one (ps_ret (pe_tup (pa_cons pe_str (pa_cons (pe_call G_law_number (hr.mono (by omega)) (by rfl) T.m_law_number T.F_law_number.kp T.b_law_number .nil pass0 (pa_cons (pv 0) pa_nil)) pa_nil))))) pss_nil)
      (pss_one (ps_ret (pe_ifExp (pt_cmpR op_eq (pv 2) pe_int (nomark _)) (pe_tup (pa_cons pe_str (pa_cons (pe_call G_law_of (hr.mono (by omega)) (by rfl) T.m_law_of T.F_law_of.kp T.b_law_of .nil pass0 (pa_cons (pv 0) (pa_cons (pv 1) pa_nil))) pa_nil))) (pe_tup (pa_cons pe_str (pa_cons (pe_call G_law_of (hr.mono (by omega)) (by rfl) T.m_law_of T.F_law_of.kp T.b_law_of .nil pass0 (pa_cons (pv 0) (pa_cons (pe_lst (pa_cons pe_int (pa_cons pe_int (pa_cons pe_int (pa_cons pe_int pa_nil))))) pa_nil))) pa_nil)))))))), ?_⟩
    refine ⟨.ref b, rfl, b, l, 3, rfl, B, by decide, by decide, fun H0 d s0 B0 _ _ => ?_⟩
    have T0 := TT.stp s0
    refine ⟨_, rfl, rfl, _, rfl, ite2 (fun _ => ?_) (fun _ => ?_)⟩
    · refine ⟨.ref b, rfl, b, l, rfl, B0, fun H2 n s2 B2 n0 n1 => ⟨(by show 2 ≤ sizeLine; decide), fun p hp => ?_⟩⟩
      exact k _ p _ ((s0.trans s2).trans (Stp.new hp)) (B2.new hp) upd_same (B2.ne hp) (.word n0 n1)
    refine ⟨_, rfl, rfl, _, rfl, ite2 (fun _ => ?_) (fun _ => ?_)⟩
    · refine ⟨.ref b, rfl, .ref t, rfl, b, l, .ref t, _, rfl, B0, T0.thg, fun H3 u s3 B3 hu => ?_⟩
      obtain ⟨z, rfl, hz⟩ := hu
      refine ⟨(by show 2 ≤ sizeLine; decide), fun p hp => ?_⟩
      exact k _ p _ ((s0.trans s3).trans (Stp.new hp)) (B3.new hp) upd_same (B3.ne hp) (.address hz)
    · refine ⟨.ref b, rfl, (by show 4 ≤ sizeLine; decide), fun q hq => ⟨b, l, .ref q, fun v => ∃ i, v = .int i ∧ 1 ≤ i ∧ i ≤ 120, rfl, B0.new hq, .lst (B0.ne hq) (SqL.of upd_same) (by show 0 < 4; decide) (by show 4 ≤ 100000; decide) (memc ⟨_, rfl, by decide, by decide⟩ (memc ⟨_, rfl, by decide, by decide⟩ (memc ⟨_, rfl, by decide, by decide⟩ (mem1 ⟨_, rfl, by decide, by decide⟩)))), fun H3 u s3 B3 hu => ?_⟩⟩
      obtain ⟨i, rfl, i0, i1⟩ := hu
      replace s3 := (Stp.new hq).trans s3
      refine ⟨(by show 2 ≤ sizeLine; decide), fun p hp => ?_⟩
      exact k _ p _ ((s0.trans s3).trans (Stp.new hp)) (B3.new hp) upd_same (B3.ne hp) (.room i0 i1)
end

/-! ### rows judged, as plain functions -/
def kindsL : List Str := ["R", "N", "n", "d", "k"]
def bnd (q : Str) : Int × Int := if q = "n" then (0, 65535) else if q = "d" then (0, 15) else (1, 120)
def fitV (q : Str) (x : V) : Bool := if q = "R" then regV x else if q = "N" then nmV x else numV x (bnd q).1 (bnd q).2
def fitA (xs : List V) (ks : List Str) : Bool := decide (xs.length = ks.length) && (List.zipWith fitV ks xs).all id
/-- the string of a kind -/
def kst (ks : List Str) : List V := ks.map V.str
/-- a value that is a tuple of xs, or none -/
def Tp (K : PySem.W.Frag) (H : Hp) (b : Addr) (n : Nat) (v : V) : Option (List V) → Prop
  | some xs => ∃ a, v = .ref a ∧ SqT K H a xs ∧ xs.length ≤ 100000 ∧ ∀ x ∈ xs, Okv K H b n x
  | none => ∃ t, TyX K H v t ∧ PySem.W.kitOne K t (.type "tuple") = some false
theorem TyX.same {K : PySem.W.Frag} {H H' : Hp} {v : V} {t : Value} (s : Same H H') (h : TyX K H v t) : TyX K H' v t := by
  cases h with
  | base h =>
    cases h with
    | non => exact .base .non
    | bl x => exact .base (.bl x)
    | int i => exact .base (.int i)
    | str x => exact .base (.str x)
    | flt x => exact .base (.flt x)
    | lst e => exact .base (.lst (s _ _ e))
    | frz e => exact .base (.frz (s _ _ e))
    | tup e => exact .base (.tup (s _ _ e))
    | dK e => exact .base (.dK (s _ _ e))
    | dT e => exact .base (.dT (s _ _ e))
    | ins e cl ha hn htk hm => exact .base (.ins (s _ _ e) cl ha hn htk hm)
  | byt b => exact .byt b
  | set e => exact .set (s _ _ e)
  | kList e c => exact .kList e c
  | kTuple e c => exact .kTuple e c
  | kDict e c => exact .kDict e c
  | fTuple e => exact .fTuple (s _ _ e)
  | fDict e => exact .fDict (s _ _ e)
theorem Tp.same {K : PySem.W.Frag} {H H' : Hp} {b : Addr} {n : Nat} {v : V} {o : Option (List V)} (s : Same H H') (h : Tp K H b n v o) : Tp K H' b n v o := by
  cases o with
  | some xs =>
    obtain ⟨a, e, h1, h2, h3⟩ := h
    exact ⟨a, e, Same.sqT s h1, h2, fun x m => (h3 x m).stp (Same.stp s)⟩
  | none =>
    obtain ⟨t, h1, h2⟩ := h
    exact ⟨t, TyX.same s h1, h2⟩
theorem Okv.tp {K : PySem.W.Frag} {H : Hp} {b : Addr} {n : Nat} {v : V} (h : Okv K H b (n + 1) v) : ∃ o, Tp K H b n v o := by
  rcases h with ⟨hf, _⟩ | ⟨a, xs, rfl, _, h | h, hl, hx⟩
  · refine ⟨none, ?_⟩
    cases v with
    | non => exact ⟨_, .base .non, kit_ty (by decide +kernel)⟩
    | bl k => exact ⟨_, .base (.bl k), kit_ty (show kitB "bool" "tuple" = some false by decide +kernel)⟩
    | int i => exact ⟨_, .base (.int i), kit_ty (show kitB "int" "tuple" = some false by decide +kernel)⟩
    | str z => exact ⟨_, .base (.str z), kit_ty (show kitB "str" "tuple" = some false by decide +kernel)⟩
    | _ => cases hf
  · exact ⟨none, _, tyx_l h, kit_ty (by decide +kernel)⟩
  · exact ⟨some xs, a, rfl, h, hl, hx⟩
/-- the word that a tuple begins with -/
def hdS : Option (List V) → Str
  | some (.str u :: _) => u
  | _ => ""
def tlS : Option (List V) → List V
  | some (_ :: r) => r
  | _ => []
def kS : List V → List Str
  | [] => []
  | .str z :: r => z :: kS r
  | _ :: r => kS r
def codeO (o : Option (List V)) : Bool := match findT tb_CODE_ROWS (hdS o) with
  | some ks => fitA (tlS o) (kS ks)
  | none => false
def dataO (o : Option (List V)) : Bool := match findT tb_DATA_ROWS (hdS o) with
  | some ks => fitA (tlS o) (kS ks)
  | none => false
theorem code_kinds {z : Str} {ks : List V} (h : findT tb_CODE_ROWS z = some ks) : ks = kst (kS ks) ∧ (∀ q ∈ kS ks, q ∈ kindsL) ∧ (kS ks).length ≤ 10 ∧ z ≠ "" := by
  unfold findT at h
  cases e : tb_CODE_ROWS.find? (fun p => decide (p.1 = z)) with
  | none => rw [e] at h; cases h
  | some p =>
    rw [e] at h
    have hm := List.mem_of_find?_eq_some e
    have hz : p.1 = z := of_decide_eq_true (List.find?_some (p := fun p : Str × List V => decide (p.1 = z)) e)
    have hk : p.2 = ks := Option.some.inj h
    subst hz hk
    have all : ∀ p ∈ tb_CODE_ROWS, p.2 = kst (kS p.2) ∧ (∀ q ∈ kS p.2, q ∈ kindsL) ∧ (kS p.2).length ≤ 10 ∧ p.1 ≠ "" := by decide +kernel
    exact all p hm
theorem data_kinds {z : Str} {ks : List V} (h : findT tb_DATA_ROWS z = some ks) : ks = kst (kS ks) ∧ (∀ q ∈ kS ks, q ∈ kindsL) ∧ (kS ks).length ≤ 10 ∧ z ≠ "" := by
  unfold findT at h
  cases e : tb_DATA_ROWS.find? (fun p => decide (p.1 = z)) with
  | none => rw [e] at h; cases h
  | some p =>
    rw [e] at h
    have hm := List.mem_of_find?_eq_some e
    have hz : p.1 = z := of_decide_eq_true (List.find?_some (p := fun p : Str × List V => decide (p.1 = z)) e)
    have hk : p.2 = ks := Option.some.inj h
    subst hz hk
    have all : ∀ p ∈ tb_DATA_ROWS, p.2 = kst (kS p.2) ∧ (∀ q ∈ kS p.2, q ∈ kindsL) ∧ (kS p.2).length ≤ 10 ∧ p.1 ≠ "" := by decide +kernel
    exact all p hm
theorem relO_d {α : Type} {R : α → Value → Prop} {v : Option α} {r : Option Value} (h : RelOpt R v r) : r.isSome = v.isSome ∧ ∀ i, v = some i → ∃ u, r = some u ∧ R i u := by
  cases v with
  | none =>
    cases r with
    | none => exact ⟨rfl, fun i e => nomatch e⟩
    | some u => exact h.elim
  | some i =>
    cases r with
    | none => exact h.elim
    | some u => exact ⟨rfl, fun j e => by cases e; exact ⟨u, rfl, h⟩⟩
theorem cut_tl (x : V) (r : List V) : cutV (x :: r) (some 1) none = r := by
  unfold cutV
  rw [show HT.sIx (x :: r).length 0 (some 1) = min 1 (x :: r).length from HT.sIx_nat _ 0 1, HT.sIx_none]
  rw [show min 1 (x :: r).length = 1 by rw [List.length_cons]; omega]
  show (r.take ((x :: r).length - 1)) = r
  rw [List.length_cons, Nat.add_sub_cancel, List.take_length]
section
variable {P : Program} {w : World} {K : PySem.W.Frag} {mg : Str → Option Value} {base : Heap} {Z : Fs}
/-! ### _fits, _fit -/
def sp_fits (K : PySem.W.Frag) : Sp := fun vs H Q _ => ∃ (x : V) (q : Str) (b : Addr) (n : Nat), vs = [x, .str q] ∧ Okv K H b n x ∧ q ∈ kindsL ∧ ∀ H' : Hp, Same H H' → Q (.bl (fitV q x)) H'
theorem ok_fits (T : Txt K w mg Z) : FnOk P w K mg base CX0 2 Z.a_fits Z.d_fits ["item", "kind"] (sp_fits K) := by
  have G_is_register : FnOk P w K mg base CX0 1 Z.a_is_register Z.d_is_register ["value"] (sp_is_register K) := ok_is_register T
  have G_is_name : FnOk P w K mg base CX0 1 Z.a_is_name Z.d_is_name ["value"] (sp_is_name K) := ok_is_name T
  have G_is_number : FnOk P w K mg base CX0 1 Z.a_is_number Z.d_is_number ["value", "least", "most"] (sp_is_number K) := ok_is_number T
  refine T.F_fits.ok sc_fits (fun vs H Q E h => ?_) (fun cdv A outer s H vs Q E hr h => ?_)
  · obtain ⟨x, q, b, n, rfl, _⟩ := h
    rfl
  · obtain ⟨x, q, b, n, rfl, ok, hq, k⟩ := h
    refine ⟨_, (pss_cons (ps_if (pt_cmpR op_eq (pv 1) pe_str (nomark _)) (pss_one (ps_ret (pe_call G_is_register (hr.mono (by omega)) (by rfl) T.m_is_register T.F_is_register.kp T.b_is_register .nil pass0 (pa_cons (pv 0) pa_nil)))) pss_nil)
      (pss_cons (ps_if (pt_cmpR op_eq (pv 1) pe_str (nomark _)) (pss_one (ps_ret (pe_call G_is_name (hr.mono (by omega)) (by rfl) T.m_is_name T.F_is_name.kp T.b_is_name .nil pass0 (pa_cons (pv 0) pa_nil)))) pss_nil)
      (pss_cons (ps_asg (pe_ix ix_kdict (pe_glob (v := .ref Z.c_BOUNDS) (by rfl) T.g_BOUNDS rfl) (pv 1) (fun _ _ => rfl)) (pg_tup (by rfl) (pgs_cons (pg_name (i := 2) sc_fits.nd rfl (Or.inl rfl)) (pgs_cons (pg_name (i := 3) sc_fits.nd rfl (Or.inl rfl)) pgs_nil))))
      (pss_one (ps_ret (pe_call G_is_number (hr.mono (by omega)) (by rfl) T.m_is_number T.F_is_number.kp T.b_is_number .nil pass0 (pa_cons (pv 0) (pa_cons (pv 2) (pa_cons (pv 3) pa_nil))))))))), ?_⟩
    refine ⟨.str q, rfl, rfl, _, rfl, ite2 (fun h1 => ?_) (fun h1 => ?_)⟩
    · have e1 : q = "R" := V.str.inj (of_decide_eq_true h1)
      refine ⟨x, rfl, x, b, n, rfl, ok, fun H' s' => ?_⟩
      have e : fitV q x = regV x := by
        unfold fitV
        rw [if_pos e1]
      rw [← e]
      exact k _ s'
    have e1 : q ≠ "R" := fun e => h1 (decide_eq_true (by rw [e]))
    refine ⟨.str q, rfl, rfl, _, rfl, ite2 (fun h2 => ?_) (fun h2 => ?_)⟩
    · have e2 : q = "N" := V.str.inj (of_decide_eq_true h2)
      refine ⟨x, rfl, x, b, n, rfl, ok, fun H' s' => ?_⟩
      have e : fitV q x = nmV x := by
        unfold fitV
        rw [if_neg e1, if_pos e2]
      rw [← e]
      exact k _ s'
    have e2 : q ≠ "N" := fun e => h2 (decide_eq_true (by rw [e]))
    obtain ⟨r, q1, q2⟩ := T.x_BOUNDS q
    obtain ⟨_, i2⟩ := relO_d q2
    have hb : findT tb_BOUNDS q = some [.int (bnd q).1, .int (bnd q).2] := by
      have all : ∀ q ∈ kindsL, q ≠ "R" → q ≠ "N" → findT tb_BOUNDS q = some [.int (bnd q).1, .int (bnd q).2] := by decide +kernel
      exact all q hq e1 e2
    obtain ⟨u, rfl, t, rfl, ht⟩ := i2 _ hb
    refine ⟨.str q, rfl, _, q, .ref t, rfl, rfl, ⟨_, _, _, T.D_BOUNDS.at_, T.D_BOUNDS.lit, q1, rfl⟩, t, _, rfl, ht H, rfl, _, _, rfl, _, _, rfl, rfl, ?_⟩
    refine ⟨x, rfl, _, rfl, _, rfl, x, _, _, b, n, rfl, ok, fun H' s' => ?_⟩
    have e : fitV q x = numV x (bnd q).1 (bnd q).2 := by
      unfold fitV
      rw [if_neg e1, if_neg e2]
    rw [← e]
    exact k _ s'
def sp_fit (K : PySem.W.Frag) : Sp := fun vs H Q _ => ∃ (a c : Addr) (xs : List V) (ks : List Str) (b : Addr) (n : Nat), vs = [.ref a, .ref c] ∧ SqT K H a xs ∧ SqT K H c (kst ks) ∧ (∀ x ∈ xs, Okv K H b n x) ∧ (∀ q ∈ ks, q ∈ kindsL) ∧ ks.length ≤ 10 ∧ ∀ H' : Hp, Same H H' → Q (.bl (fitA xs ks)) H'
theorem ok_fit (T : Txt K w mg Z) : FnOk P w K mg base CX0 3 Z.a_fit Z.d_fit ["items", "kinds"] (sp_fit K) := by
  have G_fits : FnOk P w K mg base CX0 2 Z.a_fits Z.d_fits ["item", "kind"] (sp_fits K) := ok_fits T
  refine T.F_fit.ok sc_fit (fun vs H Q E h => ?_) (fun cdv A outer s H vs Q E hr h => ?_)
  · obtain ⟨a, c, xs, ks, b, n, rfl, _⟩ := h
    rfl
  · obtain ⟨a, c, xs, ks, b, n, rfl, hx, hc, ok, hk, hl, k⟩ := h
    refine ⟨_, (pss_cons (ps_if (pt_cmpR op_ne (pe_callB call_len (by rfl) T.n_len boot_len (pa_cons (pv 0) pa_nil)) (pe_callB call_len (by rfl) T.n_len boot_len (pa_cons (pv 1) pa_nil)) (nomark _)) (pss_one (ps_ret pe_bl)) pss_nil)
      (pss_one (ps_ret (pe_callB (cr_all rfl) (by rfl) T.n_all boot_all (pa_cons (pe_lc (own := [("item", 2), ("kind", 3)]) (g := gTup K 2 (gCons (gName 2) (gCons (gName 3) gNil))) (tt := tYes) rfl sc_fit.nd (RZ.pi_zipA (by rfl) T.n_zip (pa_cons (pv 0) (pa_cons (pv 1) pa_nil))) (blkOk_by (N := N_fit) (sc := defScope s_fit) (by decide +kernel)) (fun _ _ _ _ _ => pg_tup rfl (pgs_cons (pg_name (i := 2) sc_fit.nd rfl (Or.inl rfl)) (pgs_cons (pg_name (i := 3) sc_fit.nd rfl (Or.inl rfl)) pgs_nil))) (fun _ _ _ _ _ => pts_nil) (fun _ _ _ _ _ => (pe_call G_fits (hr.mono (by omega)) (by rfl) T.m_fits T.F_fits.kp T.b_fits .nil pass0 (pa_cons (pv 2) (pa_cons (pv 3) pa_nil))))) pa_nil))))), ?_⟩
    refine ⟨.ref a, rfl, .ref a, xs.length, rfl, .inr ⟨_, hx, rfl⟩, .ref c, rfl, .ref c, (kst ks).length, rfl, .inr ⟨_, hc, rfl⟩, rfl, _, rfl, ?_⟩
    have lk : (kst ks).length = ks.length := List.length_map ..
    by_cases he : xs.length = ks.length
    · have e0 : (!decide (V.int (xs.length : Int) = V.int ((kst ks).length : Int))) = false := by simp [lk, he]
      rw [e0]
      refine iteF ⟨.ref a, rfl, .ref c, rfl, a, c, xs, kst ks, rfl, .inr ⟨hx, hc, fun D hD => ?_⟩⟩
      refine lc_it (walk_zipT (K := K) (xs := xs) (ys := kst ks) (n := xs.length) (by omega)) (fun i H' => Same H H' ∧ H' D = some (.lst (((List.zipWith fitV ks xs).take i).map V.bl))) ⟨Same.new hD, upd_same⟩ (fun i H' _ q => ⟨Same.sqT q.1 hx, Same.sqT q.1 hc⟩) ?_ ?_
      · rintro i v H2 H3 hi' ⟨s2, e2⟩ ⟨T', u, t, rfl, hT, rfl, hu, ht⟩
        obtain ⟨q, hq, rfl⟩ : ∃ q, ks[i]? = some q ∧ t = .str q := by
          have ht : (kst ks)[i]? = some t := ht
          unfold kst at ht
          rw [List.getElem?_map] at ht
          cases e : ks[i]? with
          | none => rw [e] at ht; cases ht
          | some q => rw [e] at ht; exact ⟨q, rfl, (Option.some.inj ht).symm⟩
        have hu : xs[i]? = some u := hu
        refine ⟨T', [u, .str q], rfl, SqT.of upd_same, rfl, u, [.str q], rfl, .str q, [], rfl, rfl, rfl, u, rfl, .str q, rfl, u, q, b, n, rfl, ((ok u (List.mem_of_getElem? hu)).stp (Same.stp s2)).stp (Stp.new hT), hk q (List.mem_of_getElem? hq), fun H4 s4 => ?_⟩
        have nDT : D ≠ T' := ne_of_none e2 hT
        refine ⟨_, s4 _ _ (by rw [upd_ne nDT]; exact e2), ?_, Same.put ((s2.trans (Same.new hT)).trans s4) hD, ?_⟩
        · rw [List.length_map, List.length_take]
          exact Nat.lt_of_le_of_lt (Nat.min_le_left _ _) (Nat.lt_of_lt_of_le hi' (Nat.le_trans (show xs.length ≤ 10 by omega) (by decide)))
        · have hz : (List.zipWith fitV ks xs)[i]? = some (fitV q u) := by
            rw [List.getElem?_zipWith, hq, hu]
          rw [upd_same, List.take_add_one, hz, List.map_append]
          rfl
      · rintro H' ⟨s2, e2⟩
        refine ⟨D, _, rfl, SqL.of e2, ?_⟩
        have e : ((List.zipWith fitV ks xs).take xs.length).all id = fitA xs ks := by
          rw [List.take_of_length_le (by rw [List.length_zipWith]; omega)]
          unfold fitA
          rw [decide_eq_true he, Bool.true_and]
        rw [e]
        exact k _ s2
    · have e0 : (!decide (V.int (xs.length : Int) = V.int ((kst ks).length : Int))) = true := by
        rw [lk]
        simp
        omega
      rw [e0]
      refine iteT ?_
      have e : fitA xs ks = false := by
        unfold fitA
        rw [decide_eq_false he, Bool.false_and]
      show Q (.bl false) H
      rw [← e]
      exact k _ (Same.refl _)
/-! ### _word_of, is_code_row, is_data_row -/
def sp_word_of (K : PySem.W.Frag) : Sp := fun vs H Q _ => ∃ (v : V) (b : Addr) (n : Nat) (o : Option (List V)), vs = [v] ∧ Tp K H b n v o ∧ ∀ H' : Hp, Same H H' → Q (.str (hdS o)) H'
theorem ok_word_of (T : Txt K w mg Z) : FnOk P w K mg base CX0 1 Z.a_word_of Z.d_word_of ["value"] (sp_word_of K) := by
  refine T.F_word_of.ok sc_word_of (fun vs H Q E h => ?_) (fun cdv A outer s H vs Q E hr h => ?_)
  · obtain ⟨v, b, n, o, rfl, _⟩ := h
    rfl
  · obtain ⟨v, b, n, o, rfl, tp, k⟩ := h
    refine ⟨_, (pss_cons (ps_if (PW.pt (pw_and (pt_val (pe_callB call_isi (by rfl) T.n_isinstance boot_isinstance (pa_cons (pv 0) (pa_cons (pe_bltn (v := .ty "tuple") (by rfl) T.n_tuple boot_tuple rfl) pa_nil)))) (pw_and (pt_cmpR op_gt (pe_callB call_len (by rfl) T.n_len boot_len (pa_cons (pv 0) pa_nil)) pe_int (nomark _)) (pw_and1 (pt_val (pe_callB call_isi (by rfl) T.n_isinstance boot_isinstance (pa_cons (pe_ix ix_tup (pv 0) pe_int (fun _ _ => rfl)) (pa_cons (pe_bltn (v := .ty "str") (by rfl) T.n_str boot_str rfl) pa_nil)))))))) (pss_one (ps_ret (pe_ix ix_tup (pv 0) pe_int (fun _ _ => rfl)))) pss_nil)
      (pss_one (ps_ret pe_str))), ?_⟩
    cases o with
    | none =>
      obtain ⟨t, ty, kt⟩ := tp
      exact ⟨v, rfl, v, .ty "tuple", t, _, _, rfl, .ty _, ty, kt, _, rfl, iteF (iteF (k _ (Same.refl _)))⟩
    | some xs =>
      obtain ⟨a, rfl, hx, hl, ok⟩ := tp
      refine ⟨.ref a, rfl, .ref a, .ty "tuple", _, _, true, rfl, .ty _, tyx_t hx, kit_ty (by decide +kernel), _, rfl, iteT ?_⟩
      refine ⟨.ref a, rfl, .ref a, xs.length, rfl, .inr ⟨_, hx, rfl⟩, _, _, rfl, rfl, _, rfl, ?_⟩
      cases xs with
      | nil => exact iteF (iteF (k _ (Same.refl _)))
      | cons x r =>
        refine iteY (by simp) ?_
        obtain ⟨t, ty, kS', _, _⟩ := (ok x (List.mem_cons_self ..)).ty
        refine ⟨.ref a, rfl, a, _, 0, x, rfl, rfl, hx, atI_nat (j := 0) rfl, x, .ty "str", t, _, _, rfl, .ty _, ty, kS', _, rfl, ?_⟩
        cases hv : isS x with
        | true =>
          obtain ⟨z, rfl⟩ := isS_of hv
          exact iteT ⟨.ref a, rfl, a, _, 0, .str z, rfl, rfl, hx, atI_nat (j := 0) rfl, k _ (Same.refl _)⟩
        | false =>
          refine iteF ?_
          have e : hdS (some (x :: r)) = "" := by
            cases x with
            | str z => cases hv
            | _ => rfl
          show Q (.str "") H
          rw [← e]
          exact k _ (Same.refl _)
def sp_is_code_row (K : PySem.W.Frag) : Sp := fun vs H Q _ => ∃ (v : V) (b : Addr) (n : Nat) (o : Option (List V)), vs = [v] ∧ Tp K H b n v o ∧ ∀ H' : Hp, Same H H' → Q (.bl (codeO o)) H'
theorem hd_some {o : Option (List V)} (h : hdS o ≠ "") : ∃ r, o = some (.str (hdS o) :: r) ∧ tlS o = r := by
  match o, h with
  | some (.str u :: r), _ => exact ⟨r, rfl, rfl⟩
  | some [], h => exact absurd rfl h
  | none, h => exact absurd rfl h
  | some (.non :: _), h => exact absurd rfl h
  | some (.bl _ :: _), h => exact absurd rfl h
  | some (.int _ :: _), h => exact absurd rfl h
  | some (.byt _ :: _), h => exact absurd rfl h
  | some (.flt _ :: _), h => exact absurd rfl h
  | some (.ref _ :: _), h => exact absurd rfl h
  | some (.ty _ :: _), h => exact absurd rfl h
theorem ok_is_code_row (T : Txt K w mg Z) : FnOk P w K mg base CX0 4 Z.a_is_code_row Z.d_is_code_row ["value"] (sp_is_code_row K) := by
  have G_word_of : FnOk P w K mg base CX0 1 Z.a_word_of Z.d_word_of ["value"] (sp_word_of K) := ok_word_of T
  have G_fit : FnOk P w K mg base CX0 3 Z.a_fit Z.d_fit ["items", "kinds"] (sp_fit K) := ok_fit T
  refine T.F_is_code_row.ok sc_is_code_row (fun vs H Q E h => ?_) (fun cdv A outer s H vs Q E hr h => ?_)
  · obtain ⟨v, b, n, o, rfl, _⟩ := h
    rfl
  · obtain ⟨v, b, n, o, rfl, tp, k⟩ := h
    refine ⟨_, (pss_cons (ps_set (i := 1) sc_is_code_row.nd rfl (Or.inl rfl) (pe_call G_word_of (hr.mono (by omega)) (by rfl) T.m_word_of T.F_word_of.kp T.b_word_of .nil pass0 (pa_cons (pv 0) pa_nil)))
      (pss_one (ps_ret (pe_and (pe_cmpR (op_in_kd T.D_CODE_ROWS) (pv 1) (pe_glob (v := .ref Z.c_CODE_ROWS) (by rfl) T.g_CODE_ROWS rfl) (by rfl)) (pe_one (pe_call G_fit (hr.mono (by omega)) (by rfl) T.m_fit T.F_fit.kp T.b_fit .nil pass0 (pa_cons (pe_slice sl_tup (pv 0) (po_some pe_int) po_none) (pa_cons (pe_ix ix_kdict (pe_glob (v := .ref Z.c_CODE_ROWS) (by rfl) T.g_CODE_ROWS rfl) (pv 1) (fun _ _ => rfl)) pa_nil)))))))), ?_⟩
    refine ⟨v, rfl, v, b, n, o, rfl, tp, fun H1 s1 => ?_⟩
    obtain ⟨r, q1, q2⟩ := T.x_CODE_ROWS (hdS o)
    obtain ⟨i1, i2⟩ := relO_d q2
    refine ⟨_, rfl, _, r, rfl, rfl, q1, _, rfl, ?_⟩
    rw [i1]
    cases hf : findT tb_CODE_ROWS (hdS o) with
    | none =>
      refine iteF ?_
      have e : codeO o = false := by
        unfold codeO
        rw [hf]
      rw [← e]
      exact k _ s1
    | some ks =>
      refine iteT ?_
      obtain ⟨c1, c2, c3, c4⟩ := code_kinds hf
      obtain ⟨rr, ho, htl⟩ := hd_some c4
      obtain ⟨u, rfl, t, rfl, ht⟩ := i2 _ hf
      rw [ho] at tp
      obtain ⟨a, rfl, hx, hl, ok⟩ := tp
      refine ⟨.ref a, rfl, 1, rfl, a, _, rfl, Same.sqT s1 hx, ?_, fun p hp => ?_⟩
      · rintro ⟨z, _⟩
        rw [show HT.sIx (V.str (hdS o) :: rr).length 0 (some 1) = min 1 (V.str (hdS o) :: rr).length from HT.sIx_nat _ 0 1, List.length_cons] at z
        omega
      · rw [cut_tl]
        have s2 : Same H1 (upd H1 p (.tup rr)) := Same.new hp
        have e2 : (upd H1 p (.tup rr)) p = some (.tup rr) := upd_same
        generalize upd H1 p (.tup rr) = H2 at s2 e2 ⊢
        refine ⟨_, rfl, _, hdS o, .ref t, rfl, rfl, ⟨_, _, _, T.D_CODE_ROWS.at_, T.D_CODE_ROWS.lit, q1, rfl⟩, p, t, rr, kS ks, b, n, rfl, SqT.of e2, (by rw [← c1]; exact ht H2), fun x m => ((ok x (List.mem_cons_of_mem _ m)).stp (Same.stp s1)).stp (Same.stp s2), c2, c3, fun H3 s3 => ?_⟩
        have e : codeO o = fitA rr (kS ks) := by
          unfold codeO
          rw [hf, htl]
        rw [← e]
        exact k _ ((s1.trans s2).trans s3)
def sp_is_data_row (K : PySem.W.Frag) : Sp := fun vs H Q _ => ∃ (v : V) (b : Addr) (n : Nat) (o : Option (List V)), vs = [v] ∧ Tp K H b n v o ∧ ∀ H' : Hp, Same H H' → Q (.bl (dataO o)) H'
theorem ok_is_data_row (T : Txt K w mg Z) : FnOk P w K mg base CX0 4 Z.a_is_data_row Z.d_is_data_row ["value"] (sp_is_data_row K) := by
  have G_word_of : FnOk P w K mg base CX0 1 Z.a_word_of Z.d_word_of ["value"] (sp_word_of K) := ok_word_of T
  have G_fit : FnOk P w K mg base CX0 3 Z.a_fit Z.d_fit ["items", "kinds"] (sp_fit K) := ok_fit T
  refine T.F_is_data_row.ok sc_is_data_row (fun vs H Q E h => ?_) (fun cdv A outer s H vs Q E hr h => ?_)
  · obtain ⟨v, b, n, o, rfl, _⟩ := h
    rfl
  · obtain ⟨v, b, n, o, rfl, tp, k⟩ := h
    refine ⟨_, (pss_cons (ps_set (i := 1) sc_is_data_row.nd rfl (Or.inl rfl) (pe_call G_word_of (hr.mono (by omega)) (by rfl) T.m_word_of T.F_word_of.kp T.b_word_of .nil pass0 (pa_cons (pv 0) pa_nil)))
      (pss_one (ps_ret (pe_and (pe_cmpR (op_in_kd T.D_DATA_ROWS) (pv 1) (pe_glob (v := .ref Z.c_DATA_ROWS) (by rfl) T.g_DATA_ROWS rfl) (by rfl)) (pe_one (pe_call G_fit (hr.mono (by omega)) (by rfl) T.m_fit T.F_fit.kp T.b_fit .nil pass0 (pa_cons (pe_slice sl_tup (pv 0) (po_some pe_int) po_none) (pa_cons (pe_ix ix_kdict (pe_glob (v := .ref Z.c_DATA_ROWS) (by rfl) T.g_DATA_ROWS rfl) (pv 1) (fun _ _ => rfl)) pa_nil)))))))), ?_⟩
    refine ⟨v, rfl, v, b, n, o, rfl, tp, fun H1 s1 => ?_⟩
    obtain ⟨r, q1, q2⟩ := T.x_DATA_ROWS (hdS o)
    obtain ⟨i1, i2⟩ := relO_d q2
    refine ⟨_, rfl, _, r, rfl, rfl, q1, _, rfl, ?_⟩
    rw [i1]
    cases hf : findT tb_DATA_ROWS (hdS o) with
    | none =>
      refine iteF ?_
      have e : dataO o = false := by
        unfold dataO
        rw [hf]
      rw [← e]
      exact k _ s1
    | some ks =>
      refine iteT ?_
      obtain ⟨c1, c2, c3, c4⟩ := data_kinds hf
      obtain ⟨rr, ho, htl⟩ := hd_some c4
      obtain ⟨u, rfl, t, rfl, ht⟩ := i2 _ hf
      rw [ho] at tp
      obtain ⟨a, rfl, hx, hl, ok⟩ := tp
      refine ⟨.ref a, rfl, 1, rfl, a, _, rfl, Same.sqT s1 hx, ?_, fun p hp => ?_⟩
      · rintro ⟨z, _⟩
        rw [show HT.sIx (V.str (hdS o) :: rr).length 0 (some 1) = min 1 (V.str (hdS o) :: rr).length from HT.sIx_nat _ 0 1, List.length_cons] at z
        omega
      · rw [cut_tl]
        have s2 : Same H1 (upd H1 p (.tup rr)) := Same.new hp
        have e2 : (upd H1 p (.tup rr)) p = some (.tup rr) := upd_same
        generalize upd H1 p (.tup rr) = H2 at s2 e2 ⊢
        refine ⟨_, rfl, _, hdS o, .ref t, rfl, rfl, ⟨_, _, _, T.D_DATA_ROWS.at_, T.D_DATA_ROWS.lit, q1, rfl⟩, p, t, rr, kS ks, b, n, rfl, SqT.of e2, (by rw [← c1]; exact ht H2), fun x m => ((ok x (List.mem_cons_of_mem _ m)).stp (Same.stp s1)).stp (Same.stp s2), c2, c3, fun H3 s3 => ?_⟩
        have e : dataO o = fitA rr (kS ks) := by
          unfold dataO
          rw [hf, htl]
        rw [← e]
        exact k _ ((s1.trans s2).trans s3)
end

/-! ### the law's own judgement of rows -/
theorem fitV_R (x : V) : fitV "R" x = regV x := by
  unfold fitV
  rw [if_pos rfl]
theorem fitV_N (x : V) : fitV "N" x = nmV x := by
  unfold fitV
  rw [if_neg (by decide +kernel), if_pos rfl]
theorem fitV_num {q : Str} (x : V) (h1 : q ≠ "R") (h2 : q ≠ "N") : fitV q x = numV x (bnd q).1 (bnd q).2 := by
  unfold fitV
  rw [if_neg h1, if_neg h2]
theorem fitA_0 (r : List V) : fitA r [] = decide (r.length = 0) := by
  unfold fitA
  simp
theorem fitA_1 (q : Str) (r : List V) : fitA r [q] = (decide (r.length = 1) && fitV q (r.getD 0 .non)) := by
  match r with
  | [] => rfl
  | [x] => simp [fitA]
  | x :: y :: t => simp [fitA]
theorem fitA_2 (q s : Str) (r : List V) : fitA r [q, s] = (decide (r.length = 2) && (fitV q (r.getD 0 .non) && fitV s (r.getD 1 .non))) := by
  match r with
  | [] => rfl
  | [x] => rfl
  | [x, y] => simp [fitA]
  | x :: y :: z :: t => simp [fitA]
theorem fitA_3 (q s t : Str) (r : List V) : fitA r [q, s, t] = (decide (r.length = 3) && (fitV q (r.getD 0 .non) && (fitV s (r.getD 1 .non) && fitV t (r.getD 2 .non)))) := by
  match r with
  | [] => rfl
  | [x] => rfl
  | [x, y] => rfl
  | [x, y, z] => simp [fitA]
  | x :: y :: z :: a :: l => simp [fitA]
theorem codeO_of {u : Str} {r : List V} {ks : List V} (h : findT tb_CODE_ROWS u = some ks) : codeO (some (.str u :: r)) = fitA r (kS ks) := by
  show (match findT tb_CODE_ROWS u with | some ks => fitA r (kS ks) | none => false) = _
  rw [h]
theorem codeO_no {u : Str} {r : List V} (h : findT tb_CODE_ROWS u = none) : codeO (some (.str u :: r)) = false := by
  show (match findT tb_CODE_ROWS u with | some ks => fitA r (kS ks) | none => false) = _
  rw [h]
theorem dataO_of {u : Str} {r : List V} {ks : List V} (h : findT tb_DATA_ROWS u = some ks) : dataO (some (.str u :: r)) = fitA r (kS ks) := by
  show (match findT tb_DATA_ROWS u with | some ks => fitA r (kS ks) | none => false) = _
  rw [h]
theorem dataO_no {u : Str} {r : List V} (h : findT tb_DATA_ROWS u = none) : dataO (some (.str u :: r)) = false := by
  show (match findT tb_DATA_ROWS u with | some ks => fitA r (kS ks) | none => false) = _
  rw [h]
theorem findT_no {α : Type} (l : List (Str × α)) (u : Str) (h : u ∉ l.map (·.1)) : findT l u = none := by
  unfold findT
  rw [List.find?_eq_none.mpr (fun x hx z => h (List.mem_map.mpr ⟨x, hx, of_decide_eq_true z⟩))]
  rfl
theorem cls0 : ∀ u : Str, u ∈ tb_CODE_ROWS.map (·.1) → (u = "back" ∨ u = "halt") ∨ u = "room" ∨ (u = "jump" ∨ u = "call") ∨ (u = "callby" ∨ u = "out") ∨ (u = "name" ∨ u = "ifzero") ∨ u = "put" ∨ (u = "add" ∨ u = "take") ∨ (u = "load" ∨ u = "store") := by
  have h : ∀ u ∈ tb_CODE_ROWS.map (fun p : Str × List V => p.1), (u = Str.ofString "back" ∨ u = Str.ofString "halt") ∨ u = Str.ofString "room" ∨ (u = Str.ofString "jump" ∨ u = Str.ofString "call") ∨ (u = Str.ofString "callby" ∨ u = Str.ofString "out") ∨ (u = Str.ofString "name" ∨ u = Str.ofString "ifzero") ∨ u = Str.ofString "put" ∨ (u = Str.ofString "add" ∨ u = Str.ofString "take") ∨ (u = Str.ofString "load" ∨ u = Str.ofString "store") := by
    decide +kernel
  exact h
theorem cls (u : Str) : (u = "back" ∨ u = "halt") ∨ u = "room" ∨ (u = "jump" ∨ u = "call") ∨ (u = "callby" ∨ u = "out") ∨ (u = "name" ∨ u = "ifzero") ∨ u = "put" ∨ (u = "add" ∨ u = "take") ∨ (u = "load" ∨ u = "store") ∨ findT tb_CODE_ROWS u = none := by
  by_cases h : u ∈ tb_CODE_ROWS.map (·.1)
  · rcases cls0 u h with c | c | c | c | c | c | c | c
    · exact .inl c
    · exact .inr (.inl c)
    · exact .inr (.inr (.inl c))
    · exact .inr (.inr (.inr (.inl c)))
    · exact .inr (.inr (.inr (.inr (.inl c))))
    · exact .inr (.inr (.inr (.inr (.inr (.inl c)))))
    · exact .inr (.inr (.inr (.inr (.inr (.inr (.inl c))))))
    · exact .inr (.inr (.inr (.inr (.inr (.inr (.inr (.inl c)))))))
  · exact .inr (.inr (.inr (.inr (.inr (.inr (.inr (.inr (findT_no _ _ h))))))))
theorem clsD0 : ∀ u : Str, u ∈ tb_DATA_ROWS.map (·.1) → u = "word" ∨ u = "address" ∨ u = "room" := by
  have h : ∀ u ∈ tb_DATA_ROWS.map (fun p : Str × List V => p.1), u = Str.ofString "word" ∨ u = Str.ofString "address" ∨ u = Str.ofString "room" := by
    decide +kernel
  exact h
theorem clsD (u : Str) : u = "word" ∨ u = "address" ∨ u = "room" ∨ findT tb_DATA_ROWS u = none := by
  by_cases h : u ∈ tb_DATA_ROWS.map (·.1)
  · rcases clsD0 u h with c | c | c
    · exact .inl c
    · exact .inr (.inl c)
    · exact .inr (.inr (.inl c))
  · exact .inr (.inr (.inr (findT_no _ _ h)))
theorem in2 {u a b : Str} : inV (.str u) [.str a, .str b] = true ↔ (u = a ∨ u = b) := by
  show ((a == u) || ((b == u) || false)) = true ↔ _
  rw [Bool.or_false, Bool.or_eq_true, beq_iff_eq, beq_iff_eq]
  exact ⟨fun h => h.imp Eq.symm Eq.symm, fun h => h.imp Eq.symm Eq.symm⟩
theorem in2f {u a b : Str} : inV (.str u) [.str a, .str b] = false ↔ ¬ (u = a ∨ u = b) := by
  rw [← in2, Bool.not_eq_true]
section
theorem co_0 {u : Str} {r : List V} (h : u = "back" ∨ u = "halt") : codeO (some (.str u :: r)) = decide (r.length = 0) := by
  rcases h with rfl | rfl
  · exact (codeO_of (ks := []) (by decide +kernel)).trans (fitA_0 r)
  · exact (codeO_of (ks := []) (by decide +kernel)).trans (fitA_0 r)
theorem co_room {r : List V} : codeO (some (.str "room" :: r)) = (decide (r.length = 1) && numV (r.getD 0 .non) 1 120) := by
  rw [codeO_of (ks := kst ["k"]) (by decide +kernel)]
  show fitA r ["k"] = _
  rw [fitA_1, fitV_num _ (by decide +kernel) (by decide +kernel)]
  rfl
theorem co_N {u : Str} {r : List V} (h : u = "jump" ∨ u = "call") : codeO (some (.str u :: r)) = (decide (r.length = 1) && nmV (r.getD 0 .non)) := by
  have e : codeO (some (.str u :: r)) = fitA r ["N"] := by
    rcases h with rfl | rfl
    · exact codeO_of (ks := kst ["N"]) (by decide +kernel)
    · exact codeO_of (ks := kst ["N"]) (by decide +kernel)
  rw [e, fitA_1, fitV_N]
theorem co_R {u : Str} {r : List V} (h : u = "callby" ∨ u = "out") : codeO (some (.str u :: r)) = (decide (r.length = 1) && regV (r.getD 0 .non)) := by
  have e : codeO (some (.str u :: r)) = fitA r ["R"] := by
    rcases h with rfl | rfl
    · exact codeO_of (ks := kst ["R"]) (by decide +kernel)
    · exact codeO_of (ks := kst ["R"]) (by decide +kernel)
  rw [e, fitA_1, fitV_R]
theorem co_RN {u : Str} {r : List V} (h : u = "name" ∨ u = "ifzero") : codeO (some (.str u :: r)) = (decide (r.length = 2) && (regV (r.getD 0 .non) && nmV (r.getD 1 .non))) := by
  have e : codeO (some (.str u :: r)) = fitA r ["R", "N"] := by
    rcases h with rfl | rfl
    · exact codeO_of (ks := kst ["R", "N"]) (by decide +kernel)
    · exact codeO_of (ks := kst ["R", "N"]) (by decide +kernel)
  rw [e, fitA_2, fitV_R, fitV_N]
theorem co_put {r : List V} : codeO (some (.str "put" :: r)) = (decide (r.length = 2) && (regV (r.getD 0 .non) && numV (r.getD 1 .non) 0 65535)) := by
  have e : codeO (some (.str "put" :: r)) = fitA r ["R", "n"] := codeO_of (ks := kst ["R", "n"]) (by decide +kernel)
  rw [e, fitA_2, fitV_R, fitV_num _ (by decide +kernel) (by decide +kernel)]
  rfl
theorem co_RR {u : Str} {r : List V} (h : u = "add" ∨ u = "take") : codeO (some (.str u :: r)) = (decide (r.length = 2) && (regV (r.getD 0 .non) && regV (r.getD 1 .non))) := by
  have e : codeO (some (.str u :: r)) = fitA r ["R", "R"] := by
    rcases h with rfl | rfl
    · exact codeO_of (ks := kst ["R", "R"]) (by decide +kernel)
    · exact codeO_of (ks := kst ["R", "R"]) (by decide +kernel)
  rw [e, fitA_2, fitV_R, fitV_R]
theorem co_RRd {u : Str} {r : List V} (h : u = "load" ∨ u = "store") : codeO (some (.str u :: r)) = (decide (r.length = 3) && (regV (r.getD 0 .non) && (regV (r.getD 1 .non) && numV (r.getD 2 .non) 0 15))) := by
  have e : codeO (some (.str u :: r)) = fitA r ["R", "R", "d"] := by
    rcases h with rfl | rfl
    · exact codeO_of (ks := kst ["R", "R", "d"]) (by decide +kernel)
    · exact codeO_of (ks := kst ["R", "R", "d"]) (by decide +kernel)
  rw [e, fitA_3, fitV_R, fitV_R, fitV_num _ (by decide +kernel) (by decide +kernel)]
  rfl
theorem da_word {r : List V} : dataO (some (.str "word" :: r)) = (decide (r.length = 1) && numV (r.getD 0 .non) 0 65535) := by
  have e : dataO (some (.str "word" :: r)) = fitA r ["n"] := dataO_of (ks := kst ["n"]) (by decide +kernel)
  rw [e, fitA_1, fitV_num _ (by decide +kernel) (by decide +kernel)]
  rfl
theorem da_addr {r : List V} : dataO (some (.str "address" :: r)) = (decide (r.length = 1) && nmV (r.getD 0 .non)) := by
  have e : dataO (some (.str "address" :: r)) = fitA r ["N"] := dataO_of (ks := kst ["N"]) (by decide +kernel)
  rw [e, fitA_1, fitV_N]
theorem da_room {r : List V} : dataO (some (.str "room" :: r)) = (decide (r.length = 1) && numV (r.getD 0 .non) 1 120) := by
  have e : dataO (some (.str "room" :: r)) = fitA r ["k"] := dataO_of (ks := kst ["k"]) (by decide +kernel)
  rw [e, fitA_1, fitV_num _ (by decide +kernel) (by decide +kernel)]
  rfl
/-- what is no row for want of a first register -/
theorem co_no0 {u : Str} {r : List V} (n1 : ¬ (u = "back" ∨ u = "halt")) (n2 : u ≠ "room") (n3 : ¬ (u = "jump" ∨ u = "call")) (h : regV (r.getD 0 .non) = false) : codeO (some (.str u :: r)) = false := by
  rcases cls u with c | c | c | c | c | c | c | c | c
  · exact absurd c n1
  · exact absurd c n2
  · exact absurd c n3
  · rw [co_R c, h, Bool.and_false]
  · rw [co_RN c, h, Bool.false_and, Bool.and_false]
  · subst c
    rw [co_put, h, Bool.false_and, Bool.and_false]
  · rw [co_RR c, h, Bool.false_and, Bool.and_false]
  · rw [co_RRd c, h, Bool.false_and, Bool.and_false]
  · exact codeO_no c
theorem co_no1 {u : Str} {r : List V} (n1 : ¬ (u = "back" ∨ u = "halt")) (n2 : u ≠ "room") (n3 : ¬ (u = "jump" ∨ u = "call")) (n4 : ¬ (u = "callby" ∨ u = "out")) (n5 : ¬ (u = "name" ∨ u = "ifzero")) (n6 : u ≠ "put") (h : regV (r.getD 1 .non) = false) : codeO (some (.str u :: r)) = false := by
  rcases cls u with c | c | c | c | c | c | c | c | c
  · exact absurd c n1
  · exact absurd c n2
  · exact absurd c n3
  · exact absurd c n4
  · exact absurd c n5
  · exact absurd c n6
  · rw [co_RR c, h, Bool.and_false, Bool.and_false]
  · rw [co_RRd c, h, Bool.false_and, Bool.and_false, Bool.and_false]
  · exact codeO_no c
variable {P : Program} {w : World} {K : PySem.W.Frag} {mg : Str → Option Value} {base : Heap} {Z : Fs}
theorem getD_at {r : List V} {i : Nat} (h : i < r.length) : atI r (i : Int) = some (r.getD i .non) ∧ r.getD i .non ∈ r := by
  have e : r.getD i .non = r[i] := by rw [List.getD_eq_getElem?_getD, List.getElem?_eq_getElem h]; rfl
  rw [e]
  exact ⟨atI_nat (List.getElem?_eq_getElem h), List.getElem_mem h⟩
theorem reg_none : regV .non = false := rfl
theorem ok_law_code_so (T : Txt K w mg Z) : FnOk P w K mg base CX0 2 Z.a_law_code_so Z.d_law_code_so ["_law_thing"] (sp_is_code_row K) := by
  have G_law_is_title : FnOk P w K mg base CX0 1 Z.a_law_is_title Z.d_law_is_title ["_law_thing"] (sp_law_is_title K) := ok_law_is_title T
  have G_law_within : FnOk P w K mg base CX0 1 Z.a_law_within Z.d_law_within ["_law_thing", "_law_low_y", "_law_high_y"] (sp_law_within K) := ok_law_within T
  refine T.F_law_code_so.ok sc_law_code_so (fun vs H Q E h => ?_) (fun cdv A outer s H vs Q E hr h => ?_)
  · obtain ⟨v, b, n, o, rfl, _⟩ := h
    rfl
  · obtain ⟨v, b, n, o, rfl, tp, k⟩ := h
    refine ⟨_, (pss_cons (ps_if (PW.pt (pw_or (pt_not (pt_val (pe_callB call_isi (by rfl) T.n_isinstance boot_isinstance (pa_cons (pv 0) (pa_cons (pe_bltn (v := .ty "tuple") (by rfl) T.n_tuple boot_tuple rfl) pa_nil))))) (pw_or (pt_cmpR op_eq (pe_callB call_len (by rfl) T.n_len boot_len (pa_cons (pv 0) pa_nil)) pe_int (nomark _)) (pw_or1 (pt_not (pt_val (pe_callB call_isi (by rfl) T.n_isinstance boot_isinstance (pa_cons (pe_ix ix_tup (pv 0) pe_int (fun _ _ => rfl)) (pa_cons (pe_bltn (v := .ty "str") (by rfl) T.n_str boot_str rfl) pa_nil))))))))) (pss_one (ps_ret pe_bl)) pss_nil)
      (pss_cons (ps_par (i := 1) (j := 2) (by rfl) sc_law_code_so.nd rfl rfl (by decide) rfl rfl (pa_cons (pe_ix ix_tup (pv 0) pe_int (fun _ _ => rfl)) (pa_cons (pe_callTy call_list_of (by rfl) T.n_list boot_list (pa_cons (pe_slice sl_tup (pv 0) (po_some pe_int) po_none) pa_nil)) pa_nil)) (by rfl))
      (pss_cons (ps_if (pt_cmpR (op_in_seq : OpR _ _ (rIn K false)) (pv 1) (pe_tup (pa_cons pe_str (pa_cons pe_str pa_nil))) (by rfl)) (pss_one (ps_ret (pe_cmpR op_eq (pe_callB call_len (by rfl) T.n_len boot_len (pa_cons (pv 2) pa_nil)) pe_int (nomark _)))) pss_nil)
      (pss_cons (ps_if (pt_cmpR op_eq (pv 1) pe_str (nomark _)) (pss_one (ps_ret (pe_and (pe_cmpR op_eq (pe_callB call_len (by rfl) T.n_len boot_len (pa_cons (pv 2) pa_nil)) pe_int (nomark _)) (pe_one (pe_call G_law_within (hr.mono (by omega)) (by rfl) T.m_law_within T.F_law_within.kp T.b_law_within .nil pass0 (pa_cons (pe_ix ix_list (pv 2) pe_int (fun _ _ => rfl)) (pa_cons pe_int (pa_cons pe_int pa_nil)))))))) pss_nil)
      (pss_cons (ps_if (pt_cmpR (op_in_seq : OpR _ _ (rIn K false)) (pv 1) (pe_tup (pa_cons pe_str (pa_cons pe_str pa_nil))) (by rfl)) (pss_one (ps_ret (pe_and (pe_cmpR op_eq (pe_callB call_len (by rfl) T.n_len boot_len (pa_cons (pv 2) pa_nil)) pe_int (nomark _)) (pe_one (pe_call G_law_is_title (hr.mono (by omega)) (by rfl) T.m_law_is_title T.F_law_is_title.kp T.b_law_is_title .nil pass0 (pa_cons (pe_ix ix_list (pv 2) pe_int (fun _ _ => rfl)) pa_nil)))))) pss_nil)
      (pss_cons (ps_if (PW.pt (pw_or (pt_cmpR op_eq (pe_callB call_len (by rfl) T.n_len boot_len (pa_cons (pv 2) pa_nil)) pe_int (nomark _)) (pw_or (pt_not (pt_val (pe_callB call_isi (by rfl) T.n_isinstance boot_isinstance (pa_cons (pe_ix ix_list (pv 2) pe_int (fun _ _ => rfl)) (pa_cons (pe_bltn (v := .ty "str") (by rfl) T.n_str boot_str rfl) pa_nil))))) (pw_or1 (pt_cmpR op_notIn_seq (pe_ix ix_list (pv 2) pe_int (fun _ _ => rfl)) (pe_lst (pa_cons pe_str (pa_cons pe_str (pa_cons pe_str pa_nil)))) (by rfl)))))) (pss_one (ps_ret pe_bl)) pss_nil)
      (pss_cons (ps_if (pt_cmpR (op_in_seq : OpR _ _ (rIn K false)) (pv 1) (pe_tup (pa_cons pe_str (pa_cons pe_str pa_nil))) (by rfl)) (pss_one (ps_ret (pe_cmpR op_eq (pe_callB call_len (by rfl) T.n_len boot_len (pa_cons (pv 2) pa_nil)) pe_int (nomark _)))) pss_nil)
      (pss_cons (ps_if (pt_cmpR (op_in_seq : OpR _ _ (rIn K false)) (pv 1) (pe_tup (pa_cons pe_str (pa_cons pe_str pa_nil))) (by rfl)) (pss_one (ps_ret (pe_and (pe_cmpR op_eq (pe_callB call_len (by rfl) T.n_len boot_len (pa_cons (pv 2) pa_nil)) pe_int (nomark _)) (pe_one (pe_call G_law_is_title (hr.mono (by omega)) (by rfl) T.m_law_is_title T.F_law_is_title.kp T.b_law_is_title .nil pass0 (pa_cons (pe_ix ix_list (pv 2) pe_int (fun _ _ => rfl)) pa_nil)))))) pss_nil)
      (pss_cons (ps_if (pt_cmpR op_eq (pv 1) pe_str (nomark _)) (pss_one (ps_ret (pe_and (pe_cmpR op_eq (pe_callB call_len (by rfl) T.n_len boot_len (pa_cons (pv 2) pa_nil)) pe_int (nomark _)) (pe_one (pe_call G_law_within (hr.mono (by omega)) (by rfl) T.m_law_within T.F_law_within.kp T.b_law_within .nil pass0 (pa_cons (pe_ix ix_list (pv 2) pe_int (fun _ _ => rfl)) (pa_cons pe_int (pa_cons pe_int pa_nil)))))))) pss_nil)
      (pss_cons (ps_if (PW.pt (pw_or (pt_cmpR op_lt (pe_callB call_len (by rfl) T.n_len boot_len (pa_cons (pv 2) pa_nil)) pe_int (nomark _)) (pw_or (pt_not (pt_val (pe_callB call_isi (by rfl) T.n_isinstance boot_isinstance (pa_cons (pe_ix ix_list (pv 2) pe_int (fun _ _ => rfl)) (pa_cons (pe_bltn (v := .ty "str") (by rfl) T.n_str boot_str rfl) pa_nil))))) (pw_or1 (pt_cmpR op_notIn_seq (pe_ix ix_list (pv 2) pe_int (fun _ _ => rfl)) (pe_lst (pa_cons pe_str (pa_cons pe_str (pa_cons pe_str pa_nil)))) (by rfl)))))) (pss_one (ps_ret pe_bl)) pss_nil)
      (pss_cons (ps_if (pt_cmpR (op_in_seq : OpR _ _ (rIn K false)) (pv 1) (pe_tup (pa_cons pe_str (pa_cons pe_str pa_nil))) (by rfl)) (pss_one (ps_ret (pe_cmpR op_eq (pe_callB call_len (by rfl) T.n_len boot_len (pa_cons (pv 2) pa_nil)) pe_int (nomark _)))) pss_nil)
      (pss_one (ps_ret (pe_and (pe_cmpR (op_in_seq : OpR _ _ (rIn K false)) (pv 1) (pe_tup (pa_cons pe_str (pa_cons pe_str pa_nil))) (by rfl)) (pe_and (pe_cmpR op_eq (pe_callB call_len (by rfl) T.n_len boot_len (pa_cons (pv 2) pa_nil)) pe_int (nomark _)) (pe_one (pe_call G_law_within (hr.mono (by omega)) (by rfl) T.m_law_within T.F_law_within.kp T.b_law_within .nil pass0 (pa_cons (pe_ix ix_list (pv 2) pe_int (fun _ _ => rfl)) (pa_cons pe_int (pa_cons pe_int pa_nil)))))))))))))))))))), ?_⟩
    cases o with
    | none =>
      obtain ⟨t, ty, kt⟩ := tp
      exact ⟨v, rfl, v, .ty "tuple", t, _, _, rfl, .ty _, ty, kt, _, rfl, iteT (iteT (k _ (Same.refl _)))⟩
    | some xs =>
      obtain ⟨a, rfl, hx, hl, ok⟩ := tp
      refine ⟨.ref a, rfl, .ref a, .ty "tuple", _, _, true, rfl, .ty _, tyx_t hx, kit_ty (by decide +kernel), _, rfl, iteF ?_⟩
      refine ⟨.ref a, rfl, .ref a, xs.length, rfl, .inr ⟨_, hx, rfl⟩, rfl, _, rfl, ?_⟩
      cases xs with
      | nil => exact iteY rfl (iteT (k _ (Same.refl _)))
      | cons x r =>
      refine iteN (by simp; omega) ?_
      obtain ⟨t, ty, kS', _, _⟩ := (ok x (List.mem_cons_self ..)).ty
      refine ⟨.ref a, rfl, a, _, 0, x, rfl, rfl, hx, atI_nat (j := 0) rfl, x, .ty "str", t, _, _, rfl, .ty _, ty, kS', _, rfl, ?_⟩
      cases hv : isS x with
      | false =>
        refine iteT ?_
        have e : codeO (some (x :: r)) = false := by
          have e2 : hdS (some (x :: r)) = "" := by
            cases x with
            | str z => cases hv
            | _ => rfl
          unfold codeO
          rw [e2, show findT tb_CODE_ROWS "" = none by decide +kernel]
        rw [← e]
        exact k _ (Same.refl _)
      | true =>
      obtain ⟨u, rfl⟩ := isS_of hv
      refine iteF ?_
      -- own, rest
      refine ⟨.ref a, rfl, a, _, 0, .str u, rfl, rfl, hx, atI_nat (j := 0) rfl, .ref a, rfl, 1, rfl, a, _, rfl, hx, ?_, fun p hp => ?_⟩
      · rintro ⟨z, _⟩
        rw [show HT.sIx (V.str u :: r).length 0 (some 1) = min 1 (V.str u :: r).length from HT.sIx_nat _ 0 1, List.length_cons] at z
        omega
      rw [cut_tl]
      have s1 : Same H (upd H p (.tup r)) := Same.new hp
      have e1 : (upd H p (.tup r)) p = some (.tup r) := upd_same
      generalize upd H p (.tup r) = H1 at s1 e1 ⊢
      refine ⟨p, _, rfl, .inr (SqT.of e1), fun q hq => ⟨_, _, rfl, ?_⟩⟩
      have s2 : Same H (upd H1 q (.lst r)) := s1.trans (Same.new hq)
      have eq : (upd H1 q (.lst r)) q = some (.lst r) := upd_same
      generalize upd H1 q (.lst r) = H2 at s2 eq ⊢
      clear s1 e1 hq hp
      have okr : ∀ H', Same H H' → ∀ x ∈ r, Okv K H' b n x := fun H' s' x m => (ok x (List.mem_cons_of_mem _ m)).stp (Same.stp s')
      have fin : ∀ (c : Bool) (H' : Hp), Same H H' → codeO (some (.str u :: r)) = c → Q (.bl c) H' := fun c H' s' e => by
        rw [← e]
        exact k _ s'
      -- back, halt
      refine ⟨.str u, rfl, (by show 2 ≤ sizeLine; decide), fun p3 h3 => ?_⟩
      have s3 : Same H (upd H2 p3 (.tup [V.str "back", V.str "halt"])) := s2.trans (Same.new h3)
      have eq3 := Same.new (o := .tup [V.str "back", V.str "halt"]) h3 _ _ eq
      refine ⟨p3, _, rfl, .inr (SqT.of upd_same), rfl, rfl, _, rfl, ?_⟩
      generalize upd H2 p3 (.tup [V.str "back", V.str "halt"]) = H3 at s3 eq3 ⊢
      rw [if_neg Bool.false_ne_true]
      cases c1 : inV (.str u) [.str "back", .str "halt"] with
      | true =>
        refine iteT ⟨.ref q, rfl, .ref q, r.length, rfl, .inl ⟨_, SqL.of eq3, rfl⟩, rfl, ?_⟩
        refine fin _ _ s3 ?_
        rw [co_0 (in2.mp c1)]
        rw [Bool.eq_iff_iff]
        simp
      | false =>
      replace c1 := in2f.mp c1
      refine iteF ?_
      -- room
      refine ⟨.str u, rfl, rfl, _, rfl, ite2 (fun c2 => ?_) (fun c2 => ?_)⟩
      · have c2 : u = "room" := V.str.inj (of_decide_eq_true c2)
        subst c2
        refine ⟨.ref q, rfl, .ref q, r.length, rfl, .inl ⟨_, SqL.of eq3, rfl⟩, rfl, _, rfl, ite2 (fun d1 => ?_) (fun d1 => ?_)⟩
        · have d1 : r.length = 1 := by
            have d := of_decide_eq_true d1
            injection d with d
            omega
          obtain ⟨a0, m0⟩ := getD_at (r := r) (i := 0) (by omega)
          refine ⟨.ref q, rfl, q, r, 0, _, rfl, rfl, SqL.of eq3, a0, _, 1, 120, b, n, rfl, okr _ s3 _ m0, fun H4 s4 => fin _ _ (s3.trans s4) ?_⟩
          rw [co_room, decide_eq_true d1, Bool.true_and]
        · refine fin _ _ s3 ?_
          rw [co_room, decide_eq_false (fun z => d1 (decide_eq_true (by rw [z]; rfl))), Bool.false_and]
      replace c2 : u ≠ "room" := fun z => c2 (decide_eq_true (by rw [z]))
      -- jump, call
      refine ⟨.str u, rfl, (by show 2 ≤ sizeLine; decide), fun p4 h4 => ?_⟩
      have s4 : Same H (upd H3 p4 (.tup [V.str "jump", V.str "call"])) := s3.trans (Same.new h4)
      have eq4 := Same.new (o := .tup [V.str "jump", V.str "call"]) h4 _ _ eq3
      refine ⟨p4, _, rfl, .inr (SqT.of upd_same), rfl, rfl, _, rfl, ?_⟩
      generalize upd H3 p4 (.tup [V.str "jump", V.str "call"]) = H4 at s4 eq4 ⊢
      rw [if_neg Bool.false_ne_true]
      cases c3 : inV (.str u) [.str "jump", .str "call"] with
      | true =>
        replace c3 := in2.mp c3
        refine iteT ⟨.ref q, rfl, .ref q, r.length, rfl, .inl ⟨_, SqL.of eq4, rfl⟩, rfl, _, rfl, ite2 (fun d1 => ?_) (fun d1 => ?_)⟩
        · have d1 : r.length = 1 := by
            have d := of_decide_eq_true d1
            injection d with d
            omega
          obtain ⟨a0, m0⟩ := getD_at (r := r) (i := 0) (by omega)
          refine ⟨.ref q, rfl, q, r, 0, _, rfl, rfl, SqL.of eq4, a0, _, b, n, rfl, okr _ s4 _ m0, fun H5 s5 => fin _ _ (s4.trans s5) ?_⟩
          rw [co_N c3, decide_eq_true d1, Bool.true_and]
        · refine fin _ _ s4 ?_
          rw [co_N c3, decide_eq_false (fun z => d1 (decide_eq_true (by rw [z]; rfl))), Bool.false_and]
      | false =>
      replace c3 := in2f.mp c3
      refine iteF ?_
      -- the first register
      refine ⟨.ref q, rfl, .ref q, r.length, rfl, .inl ⟨_, SqL.of eq4, rfl⟩, rfl, _, rfl, ite2 (fun d1 => ?_) (fun d1 => ?_)⟩
      · have d1 : r = [] := by
          have d := of_decide_eq_true d1
          cases r with
          | nil => rfl
          | cons x t =>
            injection d with d
            rw [List.length_cons] at d
            omega
        subst d1
        exact iteT (fin _ _ s4 (co_no0 c1 c2 c3 rfl))
      replace d1 : 0 < r.length := by
        rcases Nat.eq_zero_or_pos r.length with z | z
        · exact absurd (decide_eq_true (by rw [z]; rfl)) d1
        · exact z
      obtain ⟨a0, m0⟩ := getD_at (r := r) (i := 0) d1
      obtain ⟨t0, ty0, k0, _, _⟩ := (okr _ s4 _ m0).ty
      refine ⟨.ref q, rfl, q, r, 0, _, rfl, rfl, SqL.of eq4, a0, _, .ty "str", t0, _, _, rfl, .ty _, ty0, k0, _, rfl, ?_⟩
      cases f0 : isS (r.getD 0 .non) with
      | false => exact iteT (iteT (fin _ _ s4 (co_no0 c1 c2 c3 (by unfold regV; rw [f0, Bool.false_and]))))
      | true =>
      refine iteF ?_
      obtain ⟨z0, ez0⟩ := isS_of f0
      refine ⟨.ref q, rfl, q, r, 0, _, rfl, rfl, SqL.of eq4, a0, (by show 3 ≤ sizeLine; decide), fun p5 h5 => ?_⟩
      have s5 : Same H (upd H4 p5 (.lst [V.str "r0", V.str "r1", V.str "r2"])) := s4.trans (Same.new h5)
      have eq5 := Same.new (o := .lst [V.str "r0", V.str "r1", V.str "r2"]) h5 _ _ eq4
      refine ⟨p5, regs, rfl, .inl (SqL.of upd_same), (by rw [ez0]; rfl), rfl, _, rfl, ?_⟩
      generalize upd H4 p5 (.lst [V.str "r0", V.str "r1", V.str "r2"]) = H5 at s5 eq5 ⊢
      rw [if_pos rfl]
      cases g0 : inV (r.getD 0 .non) regs with
      | false => exact iteT (fin _ _ s5 (co_no0 c1 c2 c3 (by unfold regV; rw [g0, Bool.and_false])))
      | true =>
      have R0 : regV (r.getD 0 .non) = true := by unfold regV; rw [f0, g0]; rfl
      refine iteF ?_
      -- callby, out
      refine ⟨.str u, rfl, (by show 2 ≤ sizeLine; decide), fun p6 h6 => ?_⟩
      have s6 : Same H (upd H5 p6 (.tup [V.str "callby", V.str "out"])) := s5.trans (Same.new h6)
      have eq6 := Same.new (o := .tup [V.str "callby", V.str "out"]) h6 _ _ eq5
      refine ⟨p6, _, rfl, .inr (SqT.of upd_same), rfl, rfl, _, rfl, ?_⟩
      generalize upd H5 p6 (.tup [V.str "callby", V.str "out"]) = H6 at s6 eq6 ⊢
      rw [if_neg Bool.false_ne_true]
      cases c4 : inV (.str u) [.str "callby", .str "out"] with
      | true =>
        refine iteT ⟨.ref q, rfl, .ref q, r.length, rfl, .inl ⟨_, SqL.of eq6, rfl⟩, rfl, fin _ _ s6 ?_⟩
        rw [co_R (in2.mp c4), R0, Bool.and_true, Bool.eq_iff_iff]
        simp
        omega
      | false =>
      replace c4 := in2f.mp c4
      refine iteF ?_
      -- name, ifzero
      refine ⟨.str u, rfl, (by show 2 ≤ sizeLine; decide), fun p7 h7 => ?_⟩
      have s7 : Same H (upd H6 p7 (.tup [V.str "name", V.str "ifzero"])) := s6.trans (Same.new h7)
      have eq7 := Same.new (o := .tup [V.str "name", V.str "ifzero"]) h7 _ _ eq6
      refine ⟨p7, _, rfl, .inr (SqT.of upd_same), rfl, rfl, _, rfl, ?_⟩
      generalize upd H6 p7 (.tup [V.str "name", V.str "ifzero"]) = H7 at s7 eq7 ⊢
      rw [if_neg Bool.false_ne_true]
      cases c5 : inV (.str u) [.str "name", .str "ifzero"] with
      | true =>
        replace c5 := in2.mp c5
        refine iteT ⟨.ref q, rfl, .ref q, r.length, rfl, .inl ⟨_, SqL.of eq7, rfl⟩, rfl, _, rfl, ite2 (fun d2 => ?_) (fun d2 => ?_)⟩
        · have d2 : r.length = 2 := by
            have d := of_decide_eq_true d2
            injection d with d
            omega
          obtain ⟨a1, m1⟩ := getD_at (r := r) (i := 1) (by omega)
          refine ⟨.ref q, rfl, q, r, 1, _, rfl, rfl, SqL.of eq7, a1, _, b, n, rfl, okr _ s7 _ m1, fun H8 s8 => fin _ _ (s7.trans s8) ?_⟩
          rw [co_RN c5, decide_eq_true d2, R0, Bool.true_and, Bool.true_and]
        · refine fin _ _ s7 ?_
          rw [co_RN c5, decide_eq_false (fun z => d2 (decide_eq_true (by rw [z]; rfl))), Bool.false_and]
      | false =>
      replace c5 := in2f.mp c5
      refine iteF ?_
      -- put
      refine ⟨.str u, rfl, rfl, _, rfl, ite2 (fun c6 => ?_) (fun c6 => ?_)⟩
      · have c6 : u = "put" := V.str.inj (of_decide_eq_true c6)
        subst c6
        refine ⟨.ref q, rfl, .ref q, r.length, rfl, .inl ⟨_, SqL.of eq7, rfl⟩, rfl, _, rfl, ite2 (fun d2 => ?_) (fun d2 => ?_)⟩
        · have d2 : r.length = 2 := by
            have d := of_decide_eq_true d2
            injection d with d
            omega
          obtain ⟨a1, m1⟩ := getD_at (r := r) (i := 1) (by omega)
          refine ⟨.ref q, rfl, q, r, 1, _, rfl, rfl, SqL.of eq7, a1, _, 0, 65535, b, n, rfl, okr _ s7 _ m1, fun H8 s8 => fin _ _ (s7.trans s8) ?_⟩
          rw [co_put, decide_eq_true d2, R0, Bool.true_and, Bool.true_and]
        · refine fin _ _ s7 ?_
          rw [co_put, decide_eq_false (fun z => d2 (decide_eq_true (by rw [z]; rfl))), Bool.false_and]
      replace c6 : u ≠ "put" := fun z => c6 (decide_eq_true (by rw [z]))
      -- the second register
      refine ⟨.ref q, rfl, .ref q, r.length, rfl, .inl ⟨_, SqL.of eq7, rfl⟩, _, _, rfl, rfl, _, rfl, ite2 (fun d2 => ?_) (fun d2 => ?_)⟩
      · have d2 : r.length < 2 := by
          have d := of_decide_eq_true d2
          omega
        refine iteT (fin _ _ s7 (co_no1 c1 c2 c3 c4 c5 c6 ?_))
        rw [List.getD_eq_getElem?_getD, List.getElem?_eq_none (by omega)]
        rfl
      replace d2 : 2 ≤ r.length := by
        have q : ¬ ((r.length : Int) < 2) := fun z => d2 (decide_eq_true z)
        omega
      obtain ⟨a1, m1⟩ := getD_at (r := r) (i := 1) (by omega)
      obtain ⟨t1, ty1, k1, _, _⟩ := (okr _ s7 _ m1).ty
      refine ⟨.ref q, rfl, q, r, 1, _, rfl, rfl, SqL.of eq7, a1, _, .ty "str", t1, _, _, rfl, .ty _, ty1, k1, _, rfl, ?_⟩
      cases f1 : isS (r.getD 1 .non) with
      | false => exact iteT (iteT (fin _ _ s7 (co_no1 c1 c2 c3 c4 c5 c6 (by unfold regV; rw [f1, Bool.false_and]))))
      | true =>
      refine iteF ?_
      obtain ⟨z1, ez1⟩ := isS_of f1
      refine ⟨.ref q, rfl, q, r, 1, _, rfl, rfl, SqL.of eq7, a1, (by show 3 ≤ sizeLine; decide), fun p8 h8 => ?_⟩
      have s8 : Same H (upd H7 p8 (.lst [V.str "r0", V.str "r1", V.str "r2"])) := s7.trans (Same.new h8)
      have eq8 := Same.new (o := .lst [V.str "r0", V.str "r1", V.str "r2"]) h8 _ _ eq7
      refine ⟨p8, regs, rfl, .inl (SqL.of upd_same), (by rw [ez1]; rfl), rfl, _, rfl, ?_⟩
      generalize upd H7 p8 (.lst [V.str "r0", V.str "r1", V.str "r2"]) = H8 at s8 eq8 ⊢
      rw [if_pos rfl]
      cases g1 : inV (r.getD 1 .non) regs with
      | false => exact iteT (fin _ _ s8 (co_no1 c1 c2 c3 c4 c5 c6 (by unfold regV; rw [g1, Bool.and_false])))
      | true =>
      have R1 : regV (r.getD 1 .non) = true := by unfold regV; rw [f1, g1]; rfl
      refine iteF ?_
      -- add, take
      refine ⟨.str u, rfl, (by show 2 ≤ sizeLine; decide), fun p9 h9 => ?_⟩
      have s9 : Same H (upd H8 p9 (.tup [V.str "add", V.str "take"])) := s8.trans (Same.new h9)
      have eq9 := Same.new (o := .tup [V.str "add", V.str "take"]) h9 _ _ eq8
      refine ⟨p9, _, rfl, .inr (SqT.of upd_same), rfl, rfl, _, rfl, ?_⟩
      generalize upd H8 p9 (.tup [V.str "add", V.str "take"]) = H9 at s9 eq9 ⊢
      rw [if_neg Bool.false_ne_true]
      cases c7 : inV (.str u) [.str "add", .str "take"] with
      | true =>
        refine iteT ⟨.ref q, rfl, .ref q, r.length, rfl, .inl ⟨_, SqL.of eq9, rfl⟩, rfl, fin _ _ s9 ?_⟩
        rw [co_RR (in2.mp c7), R0, R1, Bool.true_and, Bool.and_true, Bool.eq_iff_iff]
        simp
        omega
      | false =>
      replace c7 := in2f.mp c7
      refine iteF ?_
      -- load, store
      refine ⟨.str u, rfl, (by show 2 ≤ sizeLine; decide), fun p10 h10 => ?_⟩
      have s10 : Same H (upd H9 p10 (.tup [V.str "load", V.str "store"])) := s9.trans (Same.new h10)
      have eq10 := Same.new (o := .tup [V.str "load", V.str "store"]) h10 _ _ eq9
      refine ⟨p10, _, rfl, .inr (SqT.of upd_same), rfl, rfl, _, rfl, ?_⟩
      generalize upd H9 p10 (.tup [V.str "load", V.str "store"]) = H10 at s10 eq10 ⊢
      rw [if_neg Bool.false_ne_true]
      cases c8 : inV (.str u) [.str "load", .str "store"] with
      | true =>
        replace c8 := in2.mp c8
        refine iteT ⟨.ref q, rfl, .ref q, r.length, rfl, .inl ⟨_, SqL.of eq10, rfl⟩, rfl, _, rfl, ite2 (fun d3 => ?_) (fun d3 => ?_)⟩
        · have d3 : r.length = 3 := by
            have d := of_decide_eq_true d3
            injection d with d
            omega
          obtain ⟨a2, m2⟩ := getD_at (r := r) (i := 2) (by omega)
          refine ⟨.ref q, rfl, q, r, 2, _, rfl, rfl, SqL.of eq10, a2, _, 0, 15, b, n, rfl, okr _ s10 _ m2, fun H11 s11 => fin _ _ (s10.trans s11) ?_⟩
          rw [co_RRd c8, decide_eq_true d3, R0, R1, Bool.true_and, Bool.true_and, Bool.true_and]
        · refine fin _ _ s10 ?_
          rw [co_RRd c8, decide_eq_false (fun z => d3 (decide_eq_true (by rw [z]; rfl))), Bool.false_and]
      | false =>
      replace c8 := in2f.mp c8
      refine iteF (fin _ _ s10 ?_)
      rcases cls u with c | c | c | c | c | c | c | c | c
      · exact absurd c c1
      · exact absurd c c2
      · exact absurd c c3
      · exact absurd c c4
      · exact absurd c c5
      · exact absurd c c6
      · exact absurd c c7
      · exact absurd c c8
      · exact codeO_no c
end

section
variable {P : Program} {w : World} {K : PySem.W.Frag} {mg : Str → Option Value} {base : Heap} {Z : Fs}
theorem dataO_len {o : Option (List V)} (h : ∀ u x, o ≠ some [.str u, x]) : dataO o = false := by
  match o with
  | none => rfl
  | some [] => rfl
  | some (v :: r) =>
    cases hv : isS v with
    | false =>
      have e2 : hdS (some (v :: r)) = "" := by
        cases v with
        | str z => cases hv
        | _ => rfl
      unfold dataO
      rw [e2, show findT tb_DATA_ROWS "" = none by decide +kernel]
    | true =>
      obtain ⟨u, rfl⟩ := isS_of hv
      have hl : ¬ r.length = 1 := fun z => by
        match r, z with
        | [x], _ => exact h u x rfl
      rcases clsD u with c | c | c | c
      · subst c
        rw [da_word, decide_eq_false hl, Bool.false_and]
      · subst c
        rw [da_addr, decide_eq_false hl, Bool.false_and]
      · subst c
        rw [da_room, decide_eq_false hl, Bool.false_and]
      · exact dataO_no c
theorem ok_law_data_so (T : Txt K w mg Z) : FnOk P w K mg base CX0 2 Z.a_law_data_so Z.d_law_data_so ["_law_thing"] (sp_is_data_row K) := by
  have G_law_is_title : FnOk P w K mg base CX0 1 Z.a_law_is_title Z.d_law_is_title ["_law_thing"] (sp_law_is_title K) := ok_law_is_title T
  have G_law_within : FnOk P w K mg base CX0 1 Z.a_law_within Z.d_law_within ["_law_thing", "_law_low_y", "_law_high_y"] (sp_law_within K) := ok_law_within T
  refine T.F_law_data_so.ok sc_law_data_so (fun vs H Q E h => ?_) (fun cdv A outer s H vs Q E hr h => ?_)
  · obtain ⟨v, b, n, o, rfl, _⟩ := h
    rfl
  · obtain ⟨v, b, n, o, rfl, tp, k⟩ := h
    refine ⟨_, (pss_cons (ps_if (PW.pt (pw_or (pt_not (pt_val (pe_callB call_isi (by rfl) T.n_isinstance boot_isinstance (pa_cons (pv 0) (pa_cons (pe_bltn (v := .ty "tuple") (by rfl) T.n_tuple boot_tuple rfl) pa_nil))))) (pw_or (pt_cmpR op_ne (pe_callB call_len (by rfl) T.n_len boot_len (pa_cons (pv 0) pa_nil)) pe_int (nomark _)) (pw_or1 (pt_not (pt_val (pe_callB call_isi (by rfl) T.n_isinstance boot_isinstance (pa_cons (pe_ix ix_tup (pv 0) pe_int (fun _ _ => rfl)) (pa_cons (pe_bltn (v := .ty "str") (by rfl) T.n_str boot_str rfl) pa_nil))))))))) (pss_one (ps_ret pe_bl)) pss_nil)
      (pss_cons (ps_if (pt_cmpR op_eq (pe_ix ix_tup (pv 0) pe_int (fun _ _ => rfl)) pe_str (nomark _)) (pss_one (ps_ret (pe_call G_law_within (hr.mono (by omega)) (by rfl) T.m_law_within T.F_law_within.kp T.b_law_within .nil pass0 (pa_cons (pe_ix ix_tup (pv 0) pe_int (fun _ _ => rfl)) (pa_cons pe_int (pa_cons pe_int pa_nil)))))) pss_nil)
      (pss_cons (ps_if (pt_cmpR op_eq (pe_ix ix_tup (pv 0) pe_int (fun _ _ => rfl)) pe_str (nomark _)) (pss_one (ps_ret (pe_call G_law_is_title (hr.mono (by omega)) (by rfl) T.m_law_is_title T.F_law_is_title.kp T.b_law_is_title .nil pass0 (pa_cons (pe_ix ix_tup (pv 0) pe_int (fun _ _ => rfl)) pa_nil)))) pss_nil)
      (pss_one (ps_ret (pe_and (pe_cmpR op_eq (pe_ix ix_tup (pv 0) pe_int (fun _ _ => rfl)) pe_str (nomark _)) (pe_one (pe_call G_law_within (hr.mono (by omega)) (by rfl) T.m_law_within T.F_law_within.kp T.b_law_within .nil pass0 (pa_cons (pe_ix ix_tup (pv 0) pe_int (fun _ _ => rfl)) (pa_cons pe_int (pa_cons pe_int pa_nil))))))))))), ?_⟩
    have no : (∀ u x, o ≠ some [.str u, x]) → Q (.bl false) H := fun z => by
      rw [← dataO_len z]
      exact k _ (Same.refl _)
    cases o with
    | none =>
      obtain ⟨t, ty, kt⟩ := tp
      exact ⟨v, rfl, v, .ty "tuple", t, _, _, rfl, .ty _, ty, kt, _, rfl, iteT (iteT (no (fun _ _ z => nomatch z)))⟩
    | some xs =>
      obtain ⟨a, rfl, hx, hl, ok⟩ := tp
      refine ⟨.ref a, rfl, .ref a, .ty "tuple", _, _, true, rfl, .ty _, tyx_t hx, kit_ty (by decide +kernel), _, rfl, iteF ?_⟩
      refine ⟨.ref a, rfl, .ref a, xs.length, rfl, .inr ⟨_, hx, rfl⟩, rfl, _, rfl, ?_⟩
      by_cases h2 : xs.length = 2
      · have e0 : (!decide (V.int (xs.length : Int) = V.int 2)) = false := by simp [h2]
        rw [e0]
        refine iteF ?_
        match xs, h2 with
        | [x, y], _ =>
        obtain ⟨t, ty, kS', _, _⟩ := (ok x (List.mem_cons_self ..)).ty
        refine ⟨.ref a, rfl, a, _, 0, x, rfl, rfl, hx, atI_nat (j := 0) rfl, x, .ty "str", t, _, _, rfl, .ty _, ty, kS', _, rfl, ?_⟩
        cases hv : isS x with
        | false =>
          refine iteT (no fun u x z => ?_)
          cases z
          cases hv
        | true =>
        obtain ⟨u, rfl⟩ := isS_of hv
        refine iteF ?_
        have oy := ok y (List.mem_cons_of_mem _ (List.mem_cons_self ..))
        refine ⟨.ref a, rfl, a, _, 0, .str u, rfl, rfl, hx, atI_nat (j := 0) rfl, rfl, _, rfl, ite2 (fun c => ?_) (fun c1 => ?_)⟩
        · have c := V.str.inj (of_decide_eq_true c)
          subst c
          refine ⟨.ref a, rfl, a, _, 1, y, rfl, rfl, hx, atI_nat (j := 1) rfl, y, 0, 65535, b, n, rfl, oy, fun H1 s1 => ?_⟩
          rw [show numV y 0 65535 = dataO (some [.str "word", y]) by rw [da_word]; rfl]
          exact k _ s1
        refine ⟨.ref a, rfl, a, _, 0, .str u, rfl, rfl, hx, atI_nat (j := 0) rfl, rfl, _, rfl, ite2 (fun c => ?_) (fun c2 => ?_)⟩
        · have c := V.str.inj (of_decide_eq_true c)
          subst c
          refine ⟨.ref a, rfl, a, _, 1, y, rfl, rfl, hx, atI_nat (j := 1) rfl, y, b, n, rfl, oy, fun H1 s1 => ?_⟩
          rw [show nmV y = dataO (some [.str "address", y]) by rw [da_addr]; rfl]
          exact k _ s1
        refine ⟨.ref a, rfl, a, _, 0, .str u, rfl, rfl, hx, atI_nat (j := 0) rfl, rfl, _, rfl, ite2 (fun c => ?_) (fun c3 => ?_)⟩
        · have c := V.str.inj (of_decide_eq_true c)
          subst c
          refine ⟨.ref a, rfl, a, _, 1, y, rfl, rfl, hx, atI_nat (j := 1) rfl, y, 1, 120, b, n, rfl, oy, fun H1 s1 => ?_⟩
          rw [show numV y 1 120 = dataO (some [.str "room", y]) by rw [da_room]; rfl]
          exact k _ s1
        · have e : dataO (some [.str u, y]) = false := by
            rcases clsD u with z | z | z | z
            · exact absurd (decide_eq_true (by rw [z])) c1
            · exact absurd (decide_eq_true (by rw [z])) c2
            · exact absurd (decide_eq_true (by rw [z])) c3
            · exact dataO_no z
          show Q (.bl false) H
          rw [← e]
          exact k _ (Same.refl _)
      · have e0 : (!decide (V.int (xs.length : Int) = V.int 2)) = true := by
          simp
          omega
        rw [e0]
        refine iteT (no fun u x z => ?_)
        cases z
        exact h2 rfl
end

/-! ### drawn rows are rows -/
def Rwy (ts : List Str) (xs : List V) : Prop := CRow ts xs ∨ DRow ts xs
def hd0 (xs : List V) : V := xs.getD 0 .non
def closL : List V := [.str "jump", .str "halt", .str "back"]
def nameL : List V := [.str "name", .str "jump", .str "ifzero", .str "call", .str "address"]
/-- the last item -/
def lastV (xs : List V) : V := (atI xs (-1)).getD .non
/-- the name in a row -/
def namV (xs : List V) : V := if inV (hd0 xs) nameL then lastV xs else .non
theorem regV_of {r : V} (h : r ∈ regs) : regV r = true := by
  have all : ∀ r ∈ regs, regV r = true := by decide +kernel
  exact all r h
theorem reg_str {r : V} (h : r ∈ regs) : ∃ z, r = .str z ∧ StrK z := by
  have e := regV_of h
  simp only [regs, List.mem_cons, List.not_mem_nil, or_false] at h
  rcases h with rfl | rfl | rfl
  · exact ⟨_, rfl, by decide +kernel, by decide +kernel⟩
  · exact ⟨_, rfl, by decide +kernel, by decide +kernel⟩
  · exact ⟨_, rfl, by decide +kernel, by decide +kernel⟩
theorem Okv.reg {K : PySem.W.Frag} {H : Hp} {b : Addr} {n : Nat} {r : V} (h : r ∈ regs) : Okv K H b n r := by
  obtain ⟨z, rfl, hz⟩ := reg_str h
  exact .str hz
theorem nmV_of {z : Str} (h : Nm z) : nmV (.str z) = true := by
  obtain ⟨h1, h2, h3⟩ := h
  simp [nmV, h1, h2, h3]
theorem numV_of {i lo hi : Int} (h0 : lo ≤ i) (h1 : i ≤ hi) : numV (.int i) lo hi = true := by
  simp [numV, h0, h1]
section
variable {K : PySem.W.Frag} {H : Hp} {b : Addr} {ts : List Str} {xs : List V}
theorem CRow.ok (hz : ∀ z ∈ ts, Nm z) (h : CRow ts xs) : (∀ n, ∀ x ∈ xs, Okv K H b n x) ∧ 1 ≤ xs.length ∧ xs.length ≤ 4 ∧ codeO (some xs) = true := by
  cases h with
  | put hr h0 h1 => exact ⟨fun n => memc (.lit (by decide +kernel)) (memc (.reg hr) (mem1 .int)), by simp, by simp, by rw [co_put]; exact Bool.and_eq_true_iff.mpr ⟨rfl, Bool.and_eq_true_iff.mpr ⟨regV_of hr, numV_of h0 h1⟩⟩⟩
  | name hr ht => exact ⟨fun n => memc (.lit (by decide +kernel)) (memc (.reg hr) (mem1 (.str (hz _ ht).strK))), by simp, by simp, by rw [co_RN (.inl rfl)]; exact Bool.and_eq_true_iff.mpr ⟨rfl, Bool.and_eq_true_iff.mpr ⟨regV_of hr, nmV_of (hz _ ht)⟩⟩⟩
  | ifzero hr ht => exact ⟨fun n => memc (.lit (by decide +kernel)) (memc (.reg hr) (mem1 (.str (hz _ ht).strK))), by simp, by simp, by rw [co_RN (.inr rfl)]; exact Bool.and_eq_true_iff.mpr ⟨rfl, Bool.and_eq_true_iff.mpr ⟨regV_of hr, nmV_of (hz _ ht)⟩⟩⟩
  | add hr hs => exact ⟨fun n => memc (.lit (by decide +kernel)) (memc (.reg hr) (mem1 (.reg hs))), by simp, by simp, by rw [co_RR (.inl rfl)]; exact Bool.and_eq_true_iff.mpr ⟨rfl, Bool.and_eq_true_iff.mpr ⟨regV_of hr, regV_of hs⟩⟩⟩
  | take hr hs => exact ⟨fun n => memc (.lit (by decide +kernel)) (memc (.reg hr) (mem1 (.reg hs))), by simp, by simp, by rw [co_RR (.inr rfl)]; exact Bool.and_eq_true_iff.mpr ⟨rfl, Bool.and_eq_true_iff.mpr ⟨regV_of hr, regV_of hs⟩⟩⟩
  | load hr hs h0 h1 => exact ⟨fun n => memc (.lit (by decide +kernel)) (memc (.reg hr) (memc (.reg hs) (mem1 .int))), by simp, by simp, by rw [co_RRd (.inl rfl)]; exact Bool.and_eq_true_iff.mpr ⟨rfl, Bool.and_eq_true_iff.mpr ⟨regV_of hr, Bool.and_eq_true_iff.mpr ⟨regV_of hs, numV_of h0 h1⟩⟩⟩⟩
  | store hr hs h0 h1 => exact ⟨fun n => memc (.lit (by decide +kernel)) (memc (.reg hr) (memc (.reg hs) (mem1 .int))), by simp, by simp, by rw [co_RRd (.inr rfl)]; exact Bool.and_eq_true_iff.mpr ⟨rfl, Bool.and_eq_true_iff.mpr ⟨regV_of hr, Bool.and_eq_true_iff.mpr ⟨regV_of hs, numV_of h0 h1⟩⟩⟩⟩
  | jump ht => exact ⟨fun n => memc (.lit (by decide +kernel)) (mem1 (.str (hz _ ht).strK)), by simp, by simp, by rw [co_N (.inl rfl)]; exact Bool.and_eq_true_iff.mpr ⟨rfl, nmV_of (hz _ ht)⟩⟩
  | call ht => exact ⟨fun n => memc (.lit (by decide +kernel)) (mem1 (.str (hz _ ht).strK)), by simp, by simp, by rw [co_N (.inr rfl)]; exact Bool.and_eq_true_iff.mpr ⟨rfl, nmV_of (hz _ ht)⟩⟩
  | callby hr => exact ⟨fun n => memc (.lit (by decide +kernel)) (mem1 (.reg hr)), by simp, by simp, by rw [co_R (.inl rfl)]; exact Bool.and_eq_true_iff.mpr ⟨rfl, regV_of hr⟩⟩
  | out hr => exact ⟨fun n => memc (.lit (by decide +kernel)) (mem1 (.reg hr)), by simp, by simp, by rw [co_R (.inr rfl)]; exact Bool.and_eq_true_iff.mpr ⟨rfl, regV_of hr⟩⟩
  | back => exact ⟨fun n => mem1 (.lit (by decide +kernel)), by simp, by simp, by rw [co_0 (.inl rfl)]; rfl⟩
  | halt => exact ⟨fun n => mem1 (.lit (by decide +kernel)), by simp, by simp, by rw [co_0 (.inr rfl)]; rfl⟩
  | room h0 h1 => exact ⟨fun n => memc (.lit (by decide +kernel)) (mem1 .int), by simp, by simp, by rw [co_room]; exact Bool.and_eq_true_iff.mpr ⟨rfl, numV_of h0 h1⟩⟩
theorem DRow.ok (hz : ∀ z ∈ ts, Nm z) (h : DRow ts xs) : (∀ n, ∀ x ∈ xs, Okv K H b n x) ∧ 1 ≤ xs.length ∧ xs.length ≤ 4 ∧ dataO (some xs) = true ∧ inV (hd0 xs) closL = false := by
  cases h with
  | word h0 h1 => exact ⟨fun n => memc (.lit (by decide +kernel)) (mem1 .int), by simp, by simp, by rw [da_word]; exact Bool.and_eq_true_iff.mpr ⟨rfl, numV_of h0 h1⟩, rfl⟩
  | address ht => exact ⟨fun n => memc (.lit (by decide +kernel)) (mem1 (.str (hz _ ht).strK)), by simp, by simp, by rw [da_addr]; exact Bool.and_eq_true_iff.mpr ⟨rfl, nmV_of (hz _ ht)⟩, rfl⟩
  | room h0 h1 => exact ⟨fun n => memc (.lit (by decide +kernel)) (mem1 .int), by simp, by simp, by rw [da_room]; exact Bool.and_eq_true_iff.mpr ⟨rfl, numV_of h0 h1⟩, rfl⟩
theorem Rwy.ok (hz : ∀ z ∈ ts, Nm z) (h : Rwy ts xs) : (∀ n, ∀ x ∈ xs, Okv K H b n x) ∧ 1 ≤ xs.length ∧ xs.length ≤ 4 := by
  rcases h with h | h
  · obtain ⟨h1, h2, h3, _⟩ := h.ok (K := K) (H := H) (b := b) hz
    exact ⟨h1, h2, h3⟩
  · obtain ⟨h1, h2, h3, _⟩ := h.ok (K := K) (H := H) (b := b) hz
    exact ⟨h1, h2, h3⟩
theorem Rwy.tp {a : Addr} (hz : ∀ z ∈ ts, Nm z) (h : Rwy ts xs) (e : SqT K H a xs) : Tp K H a 0 (.ref a) (some xs) :=
  ⟨a, rfl, e, Nat.le_trans (h.ok (K := K) (H := H) (b := a) hz).2.2 (by decide), (h.ok hz).1 0⟩
theorem Rwy.str (h : Rwy ts xs) : flatV (hd0 xs) = true := by
  rcases h with h | h
  · cases h <;> rfl
  · cases h <;> rfl
theorem Rwy.hd (h : Rwy ts xs) : atI xs 0 = some (hd0 xs) := by
  have l1 : 1 ≤ xs.length := by
    rcases h with h | h
    · cases h <;> simp
    · cases h <;> simp
  exact (getD_at (i := 0) (by omega)).1
end
section
variable {P : Program} {w : World} {K : PySem.W.Frag} {mg : Str → Option Value} {base : Heap} {Z : Fs}
def sp_is_closing (K : PySem.W.Frag) : Sp := fun vs H Q _ => ∃ (a : Addr) (xs : List V) (ts : List Str), vs = [.ref a] ∧ SqT K H a xs ∧ (∀ z ∈ ts, Nm z) ∧ Rwy ts xs ∧ ∀ H' : Hp, Same H H' → Q (.bl (inV (hd0 xs) closL)) H'
theorem ok_is_closing (T : Txt K w mg Z) : FnOk P w K mg base CX0 5 Z.a_is_closing Z.d_is_closing ["row"] (sp_is_closing K) := by
  have G_is_code_row : FnOk P w K mg base CX0 4 Z.a_is_code_row Z.d_is_code_row ["value"] (sp_is_code_row K) := ok_is_code_row T
  refine T.F_is_closing.ok sc_is_closing (fun vs H Q E h => ?_) (fun cdv A outer s H vs Q E hr h => ?_)
  · obtain ⟨a, xs, ts, rfl, _⟩ := h
    rfl
  · obtain ⟨a, xs, ts, rfl, hx, hz, hr', k⟩ := h
    refine ⟨_, (pss_one (ps_ret (pe_and (pe_call G_is_code_row (hr.mono (by omega)) (by rfl) T.m_is_code_row T.F_is_code_row.kp T.b_is_code_row .nil pass0 (pa_cons (pv 0) pa_nil)) (pe_one (pe_cmpR (op_in_seq : OpR _ _ (rIn K false)) (pe_ix ix_tup (pv 0) pe_int (fun _ _ => rfl)) (pe_glob (v := .ref Z.c_CLOSING) (by rfl) T.g_CLOSING rfl) (by rfl)))))), ?_⟩
    refine ⟨.ref a, rfl, .ref a, a, 0, some xs, rfl, hr'.tp hz hx, fun H1 s1 => ⟨_, rfl, ?_⟩⟩
    have hd := hr'.hd
    cases hc : codeO (some xs) with
    | true =>
      refine iteT ⟨.ref a, rfl, a, xs, 0, _, rfl, rfl, Same.sqT s1 hx, hd, _, closL, rfl, .inr (T.v_CLOSING H1), hr'.str, rfl, ?_⟩
      exact k _ s1
    | false =>
      refine iteF ?_
      rcases hr' with h | h
      · rw [(h.ok (K := K) (H := H) (b := a) hz).2.2.2] at hc
        cases hc
      · show Q (.bl false) H1
        rw [← (h.ok (K := K) (H := H) (b := a) hz).2.2.2.2]
        exact k _ s1
def sp_name_in (K : PySem.W.Frag) : Sp := fun vs H Q _ => ∃ (a : Addr) (xs : List V) (ts : List Str), vs = [.ref a] ∧ SqT K H a xs ∧ (∀ z ∈ ts, Nm z) ∧ Rwy ts xs ∧ ∀ H' : Hp, Same H H' → Q (namV xs) H'
theorem last_at {xs : List V} (h : 1 ≤ xs.length) : atI xs (-1) = some (lastV xs) := by
  rcases List.eq_nil_or_concat xs with rfl | ⟨ys, y, rfl⟩
  · cases h
  · unfold lastV
    rw [List.concat_eq_append, atI_last]
    rfl
theorem ok_name_in (T : Txt K w mg Z) : FnOk P w K mg base CX0 5 Z.a_name_in Z.d_name_in ["row"] (sp_name_in K) := by
  have G_is_code_row : FnOk P w K mg base CX0 4 Z.a_is_code_row Z.d_is_code_row ["value"] (sp_is_code_row K) := ok_is_code_row T
  have G_is_data_row : FnOk P w K mg base CX0 4 Z.a_is_data_row Z.d_is_data_row ["value"] (sp_is_data_row K) := ok_is_data_row T
  refine T.F_name_in.ok sc_name_in (fun vs H Q E h => ?_) (fun cdv A outer s H vs Q E hr h => ?_)
  · obtain ⟨a, xs, ts, rfl, _⟩ := h
    rfl
  · obtain ⟨a, xs, ts, rfl, hx, hz, hr', k⟩ := h
    refine ⟨_, (pss_cons (ps_if (PW.pt (pw_and (PW.pt (pw_or (pt_val (pe_call G_is_code_row (hr.mono (by omega)) (by rfl) T.m_is_code_row T.F_is_code_row.kp T.b_is_code_row .nil pass0 (pa_cons (pv 0) pa_nil))) (pw_or1 (pt_val (pe_call G_is_data_row (hr.mono (by omega)) (by rfl) T.m_is_data_row T.F_is_data_row.kp T.b_is_data_row .nil pass0 (pa_cons (pv 0) pa_nil)))))) (pw_and1 (pt_cmpR (op_in_seq : OpR _ _ (rIn K false)) (pe_ix ix_tup (pv 0) pe_int (fun _ _ => rfl)) (pe_glob (v := .ref Z.c_NAMING) (by rfl) T.g_NAMING rfl) (by rfl))))) (pss_one (ps_ret (pe_ix ix_tup (pv 0) (pe_un un_neg pe_int) (fun _ _ => rfl)))) pss_nil)
      (pss_one (ps_ret pe_non))), ?_⟩
    have hd := hr'.hd
    obtain ⟨ok, l1, l4⟩ := hr'.ok (K := K) (H := H) (b := a) hz
    have fin : ∀ H1, Same H H1 → (∀ H2, Same H H2 → Q (namV xs) H2) := fun _ _ => k
    refine ⟨.ref a, rfl, .ref a, a, 0, some xs, rfl, hr'.tp hz hx, fun H1 s1 => ⟨_, rfl, ?_⟩⟩
    have yes : ∀ H1, Same H H1 → inV (hd0 xs) nameL = true → Q (lastV xs) H1 := fun H1 s1 e => by
      have z : namV xs = lastV xs := by unfold namV; rw [if_pos e]
      rw [← z]
      exact k _ s1
    have non : ∀ H1, Same H H1 → inV (hd0 xs) nameL = false → Q .non H1 := fun H1 s1 e => by
      have z : namV xs = .non := by unfold namV; rw [if_neg (by rw [e]; decide)]
      rw [← z]
      exact k _ s1
    cases hc : codeO (some xs) with
    | true =>
      refine iteT ⟨.ref a, rfl, a, xs, 0, _, rfl, rfl, Same.sqT s1 hx, hd, _, nameL, rfl, .inr (T.v_NAMING H1), hr'.str, rfl, ?_⟩
      cases hn : inV (hd0 xs) nameL with
      | true => exact ⟨_, rfl, iteT ⟨.ref a, rfl, 1, rfl, a, xs, -1, _, rfl, rfl, Same.sqT s1 hx, last_at l1, yes _ s1 hn⟩⟩
      | false => exact ⟨_, rfl, iteF (non _ s1 hn)⟩
    | false =>
      refine iteF ⟨.ref a, rfl, .ref a, a, 0, some xs, rfl, hr'.tp hz (Same.sqT s1 hx), fun H2 s2 => ⟨_, rfl, ?_⟩⟩
      have s12 := s1.trans s2
      have hd' : dataO (some xs) = true := by
        rcases hr' with h | h
        · rw [(h.ok (K := K) (H := H) (b := a) hz).2.2.2] at hc
          cases hc
        · exact (h.ok (K := K) (H := H) (b := a) hz).2.2.2.1
      rw [hd']
      refine iteT ⟨.ref a, rfl, a, xs, 0, _, rfl, rfl, Same.sqT s12 hx, hd, _, nameL, rfl, .inr (T.v_NAMING H2), hr'.str, rfl, ?_⟩
      cases hn : inV (hd0 xs) nameL with
      | true => exact ⟨_, rfl, iteT ⟨.ref a, rfl, 1, rfl, a, xs, -1, _, rfl, rfl, Same.sqT s12 hx, last_at l1, yes _ s12 hn⟩⟩
      | false => exact ⟨_, rfl, iteF (non _ s12 hn)⟩
/-! ### a closing row -/
def sp_law_last_row : Sp := fun vs H Q _ => ∃ (b l t : Addr) (ts : List Str), vs = [.ref b, .ref t] ∧ Bag H b l ∧ Tls H b t ts ∧ ∀ (H' : Hp) (a : Addr) (xs : List V), Stp b H H' → Bag H' b l → H' a = some (.tup xs) → a ≠ b → CRow ts xs → Q (.ref a) H'
theorem ok_law_last_row (T : Txt K w mg Z) : FnOk P w K mg base CX0 3 Z.a_law_last_row Z.d_law_last_row ["_law_bag_here", "_law_titles_here"] sp_law_last_row := by
  have G_law_of : FnOk P w K mg base CX0 2 Z.a_law_of Z.d_law_of ["_law_bag_here", "_law_things"] (sp_law_of K) := ok_law_of T
  refine T.F_law_last_row.ok sc_law_last_row (fun vs H Q E h => ?_) (fun cdv A outer s H vs Q E hr h => ?_)
  · obtain ⟨b, l, t, ts, rfl, _⟩ := h
    rfl
  · obtain ⟨b, l, t, ts, rfl, B, TT, k⟩ := h
    refine ⟨_, (pss_one (ps_ret (pe_call G_law_of (hr.mono (by omega)) (by rfl) T.m_law_of T.F_law_of.kp T.b_law_of .nil pass0 (pa_cons (pv 0) (pa_cons (pe_lst (pa_cons (pe_tup (pa_cons pe_str (pa_cons (pe_call G_law_of (hr.mono (by omega)) (by rfl) T.m_law_of T.F_law_of.kp T.b_law_of .nil pass0 (pa_cons (pv 0) (pa_cons (pv 1) pa_nil))) pa_nil))) (pa_cons (pe_tup (pa_cons pe_str pa_nil)) (pa_cons (pe_tup (pa_cons pe_str pa_nil)) pa_nil)))) pa_nil))))), ?_⟩
    refine ⟨.ref b, rfl, .ref b, rfl, .ref t, rfl, b, l, .ref t, _, rfl, B, TT.thg, fun H0 u s0 B0 hu => ?_⟩
    obtain ⟨z, rfl, hz⟩ := hu
    refine ⟨(by show 2 ≤ sizeLine; decide), fun p1 h1 => ?_⟩
    have n1 := B0.ne h1
    have s1 : Same H0 (upd H0 p1 (.tup [V.str "jump", V.str z])) := Same.new h1
    have e1 : (upd H0 p1 (.tup [V.str "jump", V.str z])) p1 = some (.tup [V.str "jump", V.str z]) := upd_same
    generalize upd H0 p1 (.tup [V.str "jump", V.str z]) = H1 at s1 e1 ⊢
    have B1 := B0.same s1
    refine ⟨(by show 1 ≤ sizeLine; decide), fun p2 h2 => ?_⟩
    have n2 := B1.ne h2
    have s2 : Same H1 (upd H1 p2 (.tup [V.str "halt"])) := Same.new h2
    have e2 : (upd H1 p2 (.tup [V.str "halt"])) p2 = some (.tup [V.str "halt"]) := upd_same
    generalize upd H1 p2 (.tup [V.str "halt"]) = H2 at s2 e2 ⊢
    have B2 := B1.same s2
    refine ⟨(by show 1 ≤ sizeLine; decide), fun p3 h3 => ?_⟩
    have n3 := B2.ne h3
    have s3 : Same H2 (upd H2 p3 (.tup [V.str "back"])) := Same.new h3
    have e3 : (upd H2 p3 (.tup [V.str "back"])) p3 = some (.tup [V.str "back"]) := upd_same
    generalize upd H2 p3 (.tup [V.str "back"]) = H3 at s3 e3 ⊢
    have B3 := B2.same s3
    refine ⟨(by show 3 ≤ sizeLine; decide), fun q4 hq4 => ?_⟩
    have f2 := s3 _ _ e2
    have f1 := s3 _ _ (s2 _ _ e1)
    refine ⟨b, l, .ref q4, fun v => ∃ (a : Addr) (xs : List V), v = .ref a ∧ H3 a = some (.tup xs) ∧ a ≠ b ∧ CRow ts xs, rfl, B3.new hq4, .lst (B3.ne hq4) (SqL.of upd_same) (by show 0 < 3; decide) (by show 3 ≤ 100000; decide) (memc ⟨_, _, rfl, f1, n1, .jump hz⟩ (memc ⟨_, _, rfl, f2, n2, .halt⟩ (mem1 ⟨_, _, rfl, e3, n3, .back⟩))), fun H5 u s5 B5 hu => ?_⟩
    obtain ⟨a, xs, rfl, ea, na, hx⟩ := hu
    exact k _ a xs (((s0.trans (Same.stp ((s1.trans s2).trans s3))).trans (Stp.new hq4)).trans s5) B5 (s5 _ _ na ((Stp.new hq4) _ _ na ea)) na hx
end

section
variable {P : Program} {w : World} {K : PySem.W.Frag} {mg : Str → Option Value} {base : Heap} {Z : Fs}
/-! ### rows at their bounds -/
def sp_law_bounds (K : PySem.W.Frag) : Sp := fun vs H Q _ => ∃ (b l : Addr), vs = [] ∧ Bag H b l ∧ ∀ (H' : Hp) (p : Addr) (xs : List V), Same H H' → Bag H' b l → H' p = some (.lst xs) → p ≠ b → 0 < xs.length → xs.length ≤ 1000 → (∀ x ∈ xs, Okv K H' b 2 x) → Q (.ref p) H'
theorem ok_law_bounds (T : Txt K w mg Z) : FnOk P w K mg base CX0 1 Z.a_law_bounds Z.d_law_bounds [] (sp_law_bounds K) := by
  refine T.F_law_bounds.ok sc_law_bounds (fun vs H Q E h => ?_) (fun cdv A outer s H vs Q E hr h => ?_)
  · obtain ⟨b, l, rfl, _⟩ := h
    rfl
  · obtain ⟨b, l, rfl, B, k⟩ := h
    refine ⟨_, (pss_cons (ps_set (i := 0) sc_law_bounds.nd rfl (Or.inl rfl) (pe_lst (pa_cons (pe_tup (pa_cons pe_str (pa_cons pe_str (pa_cons pe_int pa_nil)))) (pa_cons (pe_tup (pa_cons pe_str (pa_cons pe_str (pa_cons pe_int pa_nil)))) (pa_cons (pe_tup (pa_cons pe_str (pa_cons pe_str (pa_cons pe_int pa_nil)))) (pa_cons (pe_tup (pa_cons pe_str (pa_cons pe_str (pa_cons (pe_un un_neg pe_int) pa_nil)))) (pa_cons (pe_tup (pa_cons pe_str (pa_cons pe_str (pa_cons pe_int pa_nil)))) pa_nil)))))))
      (pss_cons (ps_set (i := 0) sc_law_bounds.nd rfl (Or.inl rfl) (pe_op op_cat (pv 0) (pe_lst (pa_cons (pe_tup (pa_cons pe_str (pa_cons pe_str (pa_cons pe_str (pa_cons pe_int pa_nil))))) (pa_cons (pe_tup (pa_cons pe_str (pa_cons pe_str (pa_cons pe_str (pa_cons pe_int pa_nil))))) (pa_cons (pe_tup (pa_cons pe_str (pa_cons pe_str (pa_cons pe_str (pa_cons pe_int pa_nil))))) (pa_cons (pe_tup (pa_cons pe_str (pa_cons pe_str (pa_cons pe_str (pa_cons (pe_un un_neg pe_int) pa_nil))))) pa_nil)))))))
      (pss_cons (ps_set (i := 0) sc_law_bounds.nd rfl (Or.inl rfl) (pe_op op_cat (pv 0) (pe_lst (pa_cons (pe_tup (pa_cons pe_str (pa_cons pe_int pa_nil))) (pa_cons (pe_tup (pa_cons pe_str (pa_cons pe_int pa_nil))) (pa_cons (pe_tup (pa_cons pe_str (pa_cons pe_int pa_nil))) (pa_cons (pe_tup (pa_cons pe_str (pa_cons pe_int pa_nil))) (pa_cons (pe_tup (pa_cons pe_str (pa_cons pe_int pa_nil))) (pa_cons (pe_tup (pa_cons pe_str (pa_cons pe_int pa_nil))) (pa_cons (pe_tup (pa_cons pe_str (pa_cons pe_bl pa_nil))) pa_nil))))))))))
      (pss_cons (ps_set (i := 0) sc_law_bounds.nd rfl (Or.inl rfl) (pe_op op_cat (pv 0) (pe_lst (pa_cons (pe_tup (pa_cons pe_str (pa_cons pe_str pa_nil))) (pa_cons (pe_tup (pa_cons pe_str (pa_cons pe_str pa_nil))) (pa_cons (pe_tup (pa_cons pe_str (pa_cons pe_str pa_nil))) (pa_cons (pe_tup (pa_cons pe_str (pa_cons pe_str pa_nil))) (pa_cons (pe_tup (pa_cons pe_str pa_nil)) (pa_cons (pe_tup (pa_cons pe_str (pa_cons pe_str pa_nil))) (pa_cons (pe_tup pa_nil) pa_nil))))))))))
      (pss_one (ps_ret (pe_op op_cat (pv 0) (pe_lst (pa_cons (pe_lst (pa_cons pe_str pa_nil)) (pa_cons pe_str (pa_cons (pe_tup (pa_cons pe_str (pa_cons pe_bl pa_nil))) (pa_cons (pe_tup (pa_cons pe_str (pa_cons pe_str (pa_cons pe_str (pa_cons pe_bl pa_nil))))) (pa_cons (pe_tup (pa_cons pe_str (pa_cons pe_str pa_nil))) (pa_cons (pe_tup (pa_cons pe_str (pa_cons pe_str (pa_cons pe_str pa_nil)))) (pa_cons (pe_tup (pa_cons (pe_lst (pa_cons pe_str pa_nil)) pa_nil)) pa_nil))))))))))))))), ?_⟩
    obtain ⟨H0, hH0⟩ : ∃ H0, H0 = H := ⟨_, rfl⟩
    have SS : Same H H0 := by rw [hH0]; exact Same.refl _
    rw [← hH0] at B ⊢
    clear hH0
    have A : ∀ v ∈ ([] : List V), Okv K H0 b 2 v := mem0
    refine ⟨(by show 3 ≤ sizeLine; decide), fun x1 h => ?_⟩
    have na := B.ne h
    have s : Same H0 (upd H0 x1 (.tup [V.str "put", V.str "r0", V.int 65535])) := Same.new h
    have e : (upd H0 x1 (.tup [V.str "put", V.str "r0", V.int 65535])) x1 = some (.tup [V.str "put", V.str "r0", V.int 65535]) := upd_same
    replace B : Bag (upd H0 x1 (.tup [V.str "put", V.str "r0", V.int 65535])) b l := B.new h
    clear h
    generalize upd H0 x1 (.tup [V.str "put", V.str "r0", V.int 65535]) = H1 at s B e ⊢
    replace SS := SS.trans s
    replace A := fun v m => (A v m).stp (Same.stp s)
    have A := mema A (mem1 (P := Okv K H1 b 2) (x := .ref x1) (.tup0 na (SqT.of e) (by show 3 ≤ 100000; decide) (memc (.lit (by decide +kernel)) (memc (.lit (by decide +kernel)) (mem1 .int)))))
    clear e na s
    refine ⟨(by show 3 ≤ sizeLine; decide), fun x2 h => ?_⟩
    have na := B.ne h
    have s : Same H1 (upd H1 x2 (.tup [V.str "put", V.str "r0", V.int 65536])) := Same.new h
    have e : (upd H1 x2 (.tup [V.str "put", V.str "r0", V.int 65536])) x2 = some (.tup [V.str "put", V.str "r0", V.int 65536]) := upd_same
    replace B : Bag (upd H1 x2 (.tup [V.str "put", V.str "r0", V.int 65536])) b l := B.new h
    clear h
    generalize upd H1 x2 (.tup [V.str "put", V.str "r0", V.int 65536]) = H2 at s B e ⊢
    replace SS := SS.trans s
    replace A := fun v m => (A v m).stp (Same.stp s)
    have A := mema A (mem1 (P := Okv K H2 b 2) (x := .ref x2) (.tup0 na (SqT.of e) (by show 3 ≤ 100000; decide) (memc (.lit (by decide +kernel)) (memc (.lit (by decide +kernel)) (mem1 .int)))))
    clear e na s
    refine ⟨(by show 3 ≤ sizeLine; decide), fun x3 h => ?_⟩
    have na := B.ne h
    have s : Same H2 (upd H2 x3 (.tup [V.str "put", V.str "r2", V.int 0])) := Same.new h
    have e : (upd H2 x3 (.tup [V.str "put", V.str "r2", V.int 0])) x3 = some (.tup [V.str "put", V.str "r2", V.int 0]) := upd_same
    replace B : Bag (upd H2 x3 (.tup [V.str "put", V.str "r2", V.int 0])) b l := B.new h
    clear h
    generalize upd H2 x3 (.tup [V.str "put", V.str "r2", V.int 0]) = H3 at s B e ⊢
    replace SS := SS.trans s
    replace A := fun v m => (A v m).stp (Same.stp s)
    have A := mema A (mem1 (P := Okv K H3 b 2) (x := .ref x3) (.tup0 na (SqT.of e) (by show 3 ≤ 100000; decide) (memc (.lit (by decide +kernel)) (memc (.lit (by decide +kernel)) (mem1 .int)))))
    clear e na s
    refine ⟨1, rfl, (by show 3 ≤ sizeLine; decide), fun x4 h => ?_⟩
    have na := B.ne h
    have s : Same H3 (upd H3 x4 (.tup [V.str "put", V.str "r2", V.int (-1)])) := Same.new h
    have e : (upd H3 x4 (.tup [V.str "put", V.str "r2", V.int (-1)])) x4 = some (.tup [V.str "put", V.str "r2", V.int (-1)]) := upd_same
    replace B : Bag (upd H3 x4 (.tup [V.str "put", V.str "r2", V.int (-1)])) b l := B.new h
    clear h
    generalize upd H3 x4 (.tup [V.str "put", V.str "r2", V.int (-1)]) = H4 at s B e ⊢
    replace SS := SS.trans s
    replace A := fun v m => (A v m).stp (Same.stp s)
    have A := mema A (mem1 (P := Okv K H4 b 2) (x := .ref x4) (.tup0 na (SqT.of e) (by show 3 ≤ 100000; decide) (memc (.lit (by decide +kernel)) (memc (.lit (by decide +kernel)) (mem1 .int)))))
    clear e na s
    refine ⟨(by show 3 ≤ sizeLine; decide), fun x5 h => ?_⟩
    have na := B.ne h
    have s : Same H4 (upd H4 x5 (.tup [V.str "put", V.str "r3", V.int 0])) := Same.new h
    have e : (upd H4 x5 (.tup [V.str "put", V.str "r3", V.int 0])) x5 = some (.tup [V.str "put", V.str "r3", V.int 0]) := upd_same
    replace B : Bag (upd H4 x5 (.tup [V.str "put", V.str "r3", V.int 0])) b l := B.new h
    clear h
    generalize upd H4 x5 (.tup [V.str "put", V.str "r3", V.int 0]) = H5 at s B e ⊢
    replace SS := SS.trans s
    replace A := fun v m => (A v m).stp (Same.stp s)
    have A := mema A (mem1 (P := Okv K H5 b 2) (x := .ref x5) (.tup0 na (SqT.of e) (by show 3 ≤ 100000; decide) (memc (.lit (by decide +kernel)) (memc (.lit (by decide +kernel)) (mem1 .int)))))
    clear e na s
    refine ⟨(by show 5 ≤ sizeLine; decide), fun q0 h => ?_⟩
    have na := B.ne h
    have s : Same H5 (upd H5 q0 (.lst [V.ref x1, V.ref x2, V.ref x3, V.ref x4, V.ref x5])) := Same.new h
    have e : (upd H5 q0 (.lst [V.ref x1, V.ref x2, V.ref x3, V.ref x4, V.ref x5])) q0 = some (.lst [V.ref x1, V.ref x2, V.ref x3, V.ref x4, V.ref x5]) := upd_same
    replace B : Bag (upd H5 q0 (.lst [V.ref x1, V.ref x2, V.ref x3, V.ref x4, V.ref x5])) b l := B.new h
    clear h
    generalize upd H5 q0 (.lst [V.ref x1, V.ref x2, V.ref x3, V.ref x4, V.ref x5]) = H6 at s B e ⊢
    replace SS := SS.trans s
    replace A := fun v m => (A v m).stp (Same.stp s)
    have eQ := e
    clear e s
    have eP := eQ
    have AP := A
    have nP := na
    clear eQ A na
    have A : ∀ v ∈ ([] : List V), Okv K H6 b 2 v := mem0
    refine ⟨_, rfl, (by show 4 ≤ sizeLine; decide), fun x6 h => ?_⟩
    have na := B.ne h
    have s : Same H6 (upd H6 x6 (.tup [V.str "load", V.str "r0", V.str "r1", V.int 15])) := Same.new h
    have e : (upd H6 x6 (.tup [V.str "load", V.str "r0", V.str "r1", V.int 15])) x6 = some (.tup [V.str "load", V.str "r0", V.str "r1", V.int 15]) := upd_same
    replace B : Bag (upd H6 x6 (.tup [V.str "load", V.str "r0", V.str "r1", V.int 15])) b l := B.new h
    clear h
    generalize upd H6 x6 (.tup [V.str "load", V.str "r0", V.str "r1", V.int 15]) = H7 at s B e ⊢
    replace SS := SS.trans s
    replace eP := s _ _ eP
    replace AP := fun v m => (AP v m).stp (Same.stp s)
    replace A := fun v m => (A v m).stp (Same.stp s)
    have A := mema A (mem1 (P := Okv K H7 b 2) (x := .ref x6) (.tup0 na (SqT.of e) (by show 4 ≤ 100000; decide) (memc (.lit (by decide +kernel)) (memc (.lit (by decide +kernel)) (memc (.lit (by decide +kernel)) (mem1 .int))))))
    clear e na s
    refine ⟨(by show 4 ≤ sizeLine; decide), fun x7 h => ?_⟩
    have na := B.ne h
    have s : Same H7 (upd H7 x7 (.tup [V.str "load", V.str "r0", V.str "r1", V.int 16])) := Same.new h
    have e : (upd H7 x7 (.tup [V.str "load", V.str "r0", V.str "r1", V.int 16])) x7 = some (.tup [V.str "load", V.str "r0", V.str "r1", V.int 16]) := upd_same
    replace B : Bag (upd H7 x7 (.tup [V.str "load", V.str "r0", V.str "r1", V.int 16])) b l := B.new h
    clear h
    generalize upd H7 x7 (.tup [V.str "load", V.str "r0", V.str "r1", V.int 16]) = H8 at s B e ⊢
    replace SS := SS.trans s
    replace eP := s _ _ eP
    replace AP := fun v m => (AP v m).stp (Same.stp s)
    replace A := fun v m => (A v m).stp (Same.stp s)
    have A := mema A (mem1 (P := Okv K H8 b 2) (x := .ref x7) (.tup0 na (SqT.of e) (by show 4 ≤ 100000; decide) (memc (.lit (by decide +kernel)) (memc (.lit (by decide +kernel)) (memc (.lit (by decide +kernel)) (mem1 .int))))))
    clear e na s
    refine ⟨(by show 4 ≤ sizeLine; decide), fun x8 h => ?_⟩
    have na := B.ne h
    have s : Same H8 (upd H8 x8 (.tup [V.str "store", V.str "r0", V.str "r1", V.int 0])) := Same.new h
    have e : (upd H8 x8 (.tup [V.str "store", V.str "r0", V.str "r1", V.int 0])) x8 = some (.tup [V.str "store", V.str "r0", V.str "r1", V.int 0]) := upd_same
    replace B : Bag (upd H8 x8 (.tup [V.str "store", V.str "r0", V.str "r1", V.int 0])) b l := B.new h
    clear h
    generalize upd H8 x8 (.tup [V.str "store", V.str "r0", V.str "r1", V.int 0]) = H9 at s B e ⊢
    replace SS := SS.trans s
    replace eP := s _ _ eP
    replace AP := fun v m => (AP v m).stp (Same.stp s)
    replace A := fun v m => (A v m).stp (Same.stp s)
    have A := mema A (mem1 (P := Okv K H9 b 2) (x := .ref x8) (.tup0 na (SqT.of e) (by show 4 ≤ 100000; decide) (memc (.lit (by decide +kernel)) (memc (.lit (by decide +kernel)) (memc (.lit (by decide +kernel)) (mem1 .int))))))
    clear e na s
    refine ⟨1, rfl, (by show 4 ≤ sizeLine; decide), fun x9 h => ?_⟩
    have na := B.ne h
    have s : Same H9 (upd H9 x9 (.tup [V.str "store", V.str "r0", V.str "r1", V.int (-1)])) := Same.new h
    have e : (upd H9 x9 (.tup [V.str "store", V.str "r0", V.str "r1", V.int (-1)])) x9 = some (.tup [V.str "store", V.str "r0", V.str "r1", V.int (-1)]) := upd_same
    replace B : Bag (upd H9 x9 (.tup [V.str "store", V.str "r0", V.str "r1", V.int (-1)])) b l := B.new h
    clear h
    generalize upd H9 x9 (.tup [V.str "store", V.str "r0", V.str "r1", V.int (-1)]) = H10 at s B e ⊢
    replace SS := SS.trans s
    replace eP := s _ _ eP
    replace AP := fun v m => (AP v m).stp (Same.stp s)
    replace A := fun v m => (A v m).stp (Same.stp s)
    have A := mema A (mem1 (P := Okv K H10 b 2) (x := .ref x9) (.tup0 na (SqT.of e) (by show 4 ≤ 100000; decide) (memc (.lit (by decide +kernel)) (memc (.lit (by decide +kernel)) (memc (.lit (by decide +kernel)) (mem1 .int))))))
    clear e na s
    refine ⟨(by show 4 ≤ sizeLine; decide), fun q1 h => ?_⟩
    have na := B.ne h
    have s : Same H10 (upd H10 q1 (.lst [V.ref x6, V.ref x7, V.ref x8, V.ref x9])) := Same.new h
    have e : (upd H10 q1 (.lst [V.ref x6, V.ref x7, V.ref x8, V.ref x9])) q1 = some (.lst [V.ref x6, V.ref x7, V.ref x8, V.ref x9]) := upd_same
    replace B : Bag (upd H10 q1 (.lst [V.ref x6, V.ref x7, V.ref x8, V.ref x9])) b l := B.new h
    clear h
    generalize upd H10 q1 (.lst [V.ref x6, V.ref x7, V.ref x8, V.ref x9]) = H11 at s B e ⊢
    replace SS := SS.trans s
    replace eP := s _ _ eP
    replace AP := fun v m => (AP v m).stp (Same.stp s)
    replace A := fun v m => (A v m).stp (Same.stp s)
    have eQ := e
    clear e s
    refine ⟨q0, q1, [V.ref x1, V.ref x2, V.ref x3, V.ref x4, V.ref x5], [V.ref x6, V.ref x7, V.ref x8, V.ref x9], rfl, rfl, eP, eQ, (by show 5 + 4 ≤ sizeLine; decide), fun c1 h => ?_⟩
    have na := B.ne h
    have s : Same H11 (upd H11 c1 (.lst ([V.ref x1, V.ref x2, V.ref x3, V.ref x4, V.ref x5] ++ [V.ref x6, V.ref x7, V.ref x8, V.ref x9]))) := Same.new h
    have e : (upd H11 c1 (.lst ([V.ref x1, V.ref x2, V.ref x3, V.ref x4, V.ref x5] ++ [V.ref x6, V.ref x7, V.ref x8, V.ref x9]))) c1 = some (.lst [V.ref x1, V.ref x2, V.ref x3, V.ref x4, V.ref x5, V.ref x6, V.ref x7, V.ref x8, V.ref x9]) := upd_same
    replace B : Bag (upd H11 c1 (.lst ([V.ref x1, V.ref x2, V.ref x3, V.ref x4, V.ref x5] ++ [V.ref x6, V.ref x7, V.ref x8, V.ref x9]))) b l := B.new h
    clear h
    generalize upd H11 c1 (.lst ([V.ref x1, V.ref x2, V.ref x3, V.ref x4, V.ref x5] ++ [V.ref x6, V.ref x7, V.ref x8, V.ref x9])) = H12 at s B e ⊢
    replace SS := SS.trans s
    have AP : ∀ v ∈ [V.ref x1, V.ref x2, V.ref x3, V.ref x4, V.ref x5, V.ref x6, V.ref x7, V.ref x8, V.ref x9], Okv K H12 b 2 v := fun v m => (mema AP A v m).stp (Same.stp s)
    have eP := e
    have nP := na
    clear eQ A na s e
    have A : ∀ v ∈ ([] : List V), Okv K H12 b 2 v := mem0
    refine ⟨_, rfl, (by show 2 ≤ sizeLine; decide), fun x10 h => ?_⟩
    have na := B.ne h
    have s : Same H12 (upd H12 x10 (.tup [V.str "room", V.int 1])) := Same.new h
    have e : (upd H12 x10 (.tup [V.str "room", V.int 1])) x10 = some (.tup [V.str "room", V.int 1]) := upd_same
    replace B : Bag (upd H12 x10 (.tup [V.str "room", V.int 1])) b l := B.new h
    clear h
    generalize upd H12 x10 (.tup [V.str "room", V.int 1]) = H13 at s B e ⊢
    replace SS := SS.trans s
    replace eP := s _ _ eP
    replace AP := fun v m => (AP v m).stp (Same.stp s)
    replace A := fun v m => (A v m).stp (Same.stp s)
    have A := mema A (mem1 (P := Okv K H13 b 2) (x := .ref x10) (.tup0 na (SqT.of e) (by show 2 ≤ 100000; decide) (memc (.lit (by decide +kernel)) (mem1 .int))))
    clear e na s
    refine ⟨(by show 2 ≤ sizeLine; decide), fun x11 h => ?_⟩
    have na := B.ne h
    have s : Same H13 (upd H13 x11 (.tup [V.str "room", V.int 120])) := Same.new h
    have e : (upd H13 x11 (.tup [V.str "room", V.int 120])) x11 = some (.tup [V.str "room", V.int 120]) := upd_same
    replace B : Bag (upd H13 x11 (.tup [V.str "room", V.int 120])) b l := B.new h
    clear h
    generalize upd H13 x11 (.tup [V.str "room", V.int 120]) = H14 at s B e ⊢
    replace SS := SS.trans s
    replace eP := s _ _ eP
    replace AP := fun v m => (AP v m).stp (Same.stp s)
    replace A := fun v m => (A v m).stp (Same.stp s)
    have A := mema A (mem1 (P := Okv K H14 b 2) (x := .ref x11) (.tup0 na (SqT.of e) (by show 2 ≤ 100000; decide) (memc (.lit (by decide +kernel)) (mem1 .int))))
    clear e na s
    refine ⟨(by show 2 ≤ sizeLine; decide), fun x12 h => ?_⟩
    have na := B.ne h
    have s : Same H14 (upd H14 x12 (.tup [V.str "room", V.int 0])) := Same.new h
    have e : (upd H14 x12 (.tup [V.str "room", V.int 0])) x12 = some (.tup [V.str "room", V.int 0]) := upd_same
    replace B : Bag (upd H14 x12 (.tup [V.str "room", V.int 0])) b l := B.new h
    clear h
    generalize upd H14 x12 (.tup [V.str "room", V.int 0]) = H15 at s B e ⊢
    replace SS := SS.trans s
    replace eP := s _ _ eP
    replace AP := fun v m => (AP v m).stp (Same.stp s)
    replace A := fun v m => (A v m).stp (Same.stp s)
    have A := mema A (mem1 (P := Okv K H15 b 2) (x := .ref x12) (.tup0 na (SqT.of e) (by show 2 ≤ 100000; decide) (memc (.lit (by decide +kernel)) (mem1 .int))))
    clear e na s
    refine ⟨(by show 2 ≤ sizeLine; decide), fun x13 h => ?_⟩
    have na := B.ne h
    have s : Same H15 (upd H15 x13 (.tup [V.str "room", V.int 121])) := Same.new h
    have e : (upd H15 x13 (.tup [V.str "room", V.int 121])) x13 = some (.tup [V.str "room", V.int 121]) := upd_same
    replace B : Bag (upd H15 x13 (.tup [V.str "room", V.int 121])) b l := B.new h
    clear h
    generalize upd H15 x13 (.tup [V.str "room", V.int 121]) = H16 at s B e ⊢
    replace SS := SS.trans s
    replace eP := s _ _ eP
    replace AP := fun v m => (AP v m).stp (Same.stp s)
    replace A := fun v m => (A v m).stp (Same.stp s)
    have A := mema A (mem1 (P := Okv K H16 b 2) (x := .ref x13) (.tup0 na (SqT.of e) (by show 2 ≤ 100000; decide) (memc (.lit (by decide +kernel)) (mem1 .int))))
    clear e na s
    refine ⟨(by show 2 ≤ sizeLine; decide), fun x14 h => ?_⟩
    have na := B.ne h
    have s : Same H16 (upd H16 x14 (.tup [V.str "word", V.int 65535])) := Same.new h
    have e : (upd H16 x14 (.tup [V.str "word", V.int 65535])) x14 = some (.tup [V.str "word", V.int 65535]) := upd_same
    replace B : Bag (upd H16 x14 (.tup [V.str "word", V.int 65535])) b l := B.new h
    clear h
    generalize upd H16 x14 (.tup [V.str "word", V.int 65535]) = H17 at s B e ⊢
    replace SS := SS.trans s
    replace eP := s _ _ eP
    replace AP := fun v m => (AP v m).stp (Same.stp s)
    replace A := fun v m => (A v m).stp (Same.stp s)
    have A := mema A (mem1 (P := Okv K H17 b 2) (x := .ref x14) (.tup0 na (SqT.of e) (by show 2 ≤ 100000; decide) (memc (.lit (by decide +kernel)) (mem1 .int))))
    clear e na s
    refine ⟨(by show 2 ≤ sizeLine; decide), fun x15 h => ?_⟩
    have na := B.ne h
    have s : Same H17 (upd H17 x15 (.tup [V.str "word", V.int 65536])) := Same.new h
    have e : (upd H17 x15 (.tup [V.str "word", V.int 65536])) x15 = some (.tup [V.str "word", V.int 65536]) := upd_same
    replace B : Bag (upd H17 x15 (.tup [V.str "word", V.int 65536])) b l := B.new h
    clear h
    generalize upd H17 x15 (.tup [V.str "word", V.int 65536]) = H18 at s B e ⊢
    replace SS := SS.trans s
    replace eP := s _ _ eP
    replace AP := fun v m => (AP v m).stp (Same.stp s)
    replace A := fun v m => (A v m).stp (Same.stp s)
    have A := mema A (mem1 (P := Okv K H18 b 2) (x := .ref x15) (.tup0 na (SqT.of e) (by show 2 ≤ 100000; decide) (memc (.lit (by decide +kernel)) (mem1 .int))))
    clear e na s
    refine ⟨(by show 2 ≤ sizeLine; decide), fun x16 h => ?_⟩
    have na := B.ne h
    have s : Same H18 (upd H18 x16 (.tup [V.str "word", V.bl true])) := Same.new h
    have e : (upd H18 x16 (.tup [V.str "word", V.bl true])) x16 = some (.tup [V.str "word", V.bl true]) := upd_same
    replace B : Bag (upd H18 x16 (.tup [V.str "word", V.bl true])) b l := B.new h
    clear h
    generalize upd H18 x16 (.tup [V.str "word", V.bl true]) = H19 at s B e ⊢
    replace SS := SS.trans s
    replace eP := s _ _ eP
    replace AP := fun v m => (AP v m).stp (Same.stp s)
    replace A := fun v m => (A v m).stp (Same.stp s)
    have A := mema A (mem1 (P := Okv K H19 b 2) (x := .ref x16) (.tup0 na (SqT.of e) (by show 2 ≤ 100000; decide) (memc (.lit (by decide +kernel)) (mem1 .bl))))
    clear e na s
    refine ⟨(by show 7 ≤ sizeLine; decide), fun q2 h => ?_⟩
    have na := B.ne h
    have s : Same H19 (upd H19 q2 (.lst [V.ref x10, V.ref x11, V.ref x12, V.ref x13, V.ref x14, V.ref x15, V.ref x16])) := Same.new h
    have e : (upd H19 q2 (.lst [V.ref x10, V.ref x11, V.ref x12, V.ref x13, V.ref x14, V.ref x15, V.ref x16])) q2 = some (.lst [V.ref x10, V.ref x11, V.ref x12, V.ref x13, V.ref x14, V.ref x15, V.ref x16]) := upd_same
    replace B : Bag (upd H19 q2 (.lst [V.ref x10, V.ref x11, V.ref x12, V.ref x13, V.ref x14, V.ref x15, V.ref x16])) b l := B.new h
    clear h
    generalize upd H19 q2 (.lst [V.ref x10, V.ref x11, V.ref x12, V.ref x13, V.ref x14, V.ref x15, V.ref x16]) = H20 at s B e ⊢
    replace SS := SS.trans s
    replace eP := s _ _ eP
    replace AP := fun v m => (AP v m).stp (Same.stp s)
    replace A := fun v m => (A v m).stp (Same.stp s)
    have eQ := e
    clear e s
    refine ⟨c1, q2, [V.ref x1, V.ref x2, V.ref x3, V.ref x4, V.ref x5, V.ref x6, V.ref x7, V.ref x8, V.ref x9], [V.ref x10, V.ref x11, V.ref x12, V.ref x13, V.ref x14, V.ref x15, V.ref x16], rfl, rfl, eP, eQ, (by show 9 + 7 ≤ sizeLine; decide), fun c2 h => ?_⟩
    have na := B.ne h
    have s : Same H20 (upd H20 c2 (.lst ([V.ref x1, V.ref x2, V.ref x3, V.ref x4, V.ref x5, V.ref x6, V.ref x7, V.ref x8, V.ref x9] ++ [V.ref x10, V.ref x11, V.ref x12, V.ref x13, V.ref x14, V.ref x15, V.ref x16]))) := Same.new h
    have e : (upd H20 c2 (.lst ([V.ref x1, V.ref x2, V.ref x3, V.ref x4, V.ref x5, V.ref x6, V.ref x7, V.ref x8, V.ref x9] ++ [V.ref x10, V.ref x11, V.ref x12, V.ref x13, V.ref x14, V.ref x15, V.ref x16]))) c2 = some (.lst [V.ref x1, V.ref x2, V.ref x3, V.ref x4, V.ref x5, V.ref x6, V.ref x7, V.ref x8, V.ref x9, V.ref x10, V.ref x11, V.ref x12, V.ref x13, V.ref x14, V.ref x15, V.ref x16]) := upd_same
    replace B : Bag (upd H20 c2 (.lst ([V.ref x1, V.ref x2, V.ref x3, V.ref x4, V.ref x5, V.ref x6, V.ref x7, V.ref x8, V.ref x9] ++ [V.ref x10, V.ref x11, V.ref x12, V.ref x13, V.ref x14, V.ref x15, V.ref x16]))) b l := B.new h
    clear h
    generalize upd H20 c2 (.lst ([V.ref x1, V.ref x2, V.ref x3, V.ref x4, V.ref x5, V.ref x6, V.ref x7, V.ref x8, V.ref x9] ++ [V.ref x10, V.ref x11, V.ref x12, V.ref x13, V.ref x14, V.ref x15, V.ref x16])) = H21 at s B e ⊢
    replace SS := SS.trans s
    have AP : ∀ v ∈ [V.ref x1, V.ref x2, V.ref x3, V.ref x4, V.ref x5, V.ref x6, V.ref x7, V.ref x8, V.ref x9, V.ref x10, V.ref x11, V.ref x12, V.ref x13, V.ref x14, V.ref x15, V.ref x16], Okv K H21 b 2 v := fun v m => (mema AP A v m).stp (Same.stp s)
    have eP := e
    have nP := na
    clear eQ A na s e
    have A : ∀ v ∈ ([] : List V), Okv K H21 b 2 v := mem0
    refine ⟨_, rfl, (by show 2 ≤ sizeLine; decide), fun x17 h => ?_⟩
    have na := B.ne h
    have s : Same H21 (upd H21 x17 (.tup [V.str "jump", V.str "abcdef"])) := Same.new h
    have e : (upd H21 x17 (.tup [V.str "jump", V.str "abcdef"])) x17 = some (.tup [V.str "jump", V.str "abcdef"]) := upd_same
    replace B : Bag (upd H21 x17 (.tup [V.str "jump", V.str "abcdef"])) b l := B.new h
    clear h
    generalize upd H21 x17 (.tup [V.str "jump", V.str "abcdef"]) = H22 at s B e ⊢
    replace SS := SS.trans s
    replace eP := s _ _ eP
    replace AP := fun v m => (AP v m).stp (Same.stp s)
    replace A := fun v m => (A v m).stp (Same.stp s)
    have A := mema A (mem1 (P := Okv K H22 b 2) (x := .ref x17) (.tup0 na (SqT.of e) (by show 2 ≤ 100000; decide) (memc (.lit (by decide +kernel)) (mem1 (.lit (by decide +kernel))))))
    clear e na s
    refine ⟨(by show 2 ≤ sizeLine; decide), fun x18 h => ?_⟩
    have na := B.ne h
    have s : Same H22 (upd H22 x18 (.tup [V.str "jump", V.str "abcdefg"])) := Same.new h
    have e : (upd H22 x18 (.tup [V.str "jump", V.str "abcdefg"])) x18 = some (.tup [V.str "jump", V.str "abcdefg"]) := upd_same
    replace B : Bag (upd H22 x18 (.tup [V.str "jump", V.str "abcdefg"])) b l := B.new h
    clear h
    generalize upd H22 x18 (.tup [V.str "jump", V.str "abcdefg"]) = H23 at s B e ⊢
    replace SS := SS.trans s
    replace eP := s _ _ eP
    replace AP := fun v m => (AP v m).stp (Same.stp s)
    replace A := fun v m => (A v m).stp (Same.stp s)
    have A := mema A (mem1 (P := Okv K H23 b 2) (x := .ref x18) (.tup0 na (SqT.of e) (by show 2 ≤ 100000; decide) (memc (.lit (by decide +kernel)) (mem1 (.lit (by decide +kernel))))))
    clear e na s
    refine ⟨(by show 2 ≤ sizeLine; decide), fun x19 h => ?_⟩
    have na := B.ne h
    have s : Same H23 (upd H23 x19 (.tup [V.str "address", V.str ""])) := Same.new h
    have e : (upd H23 x19 (.tup [V.str "address", V.str ""])) x19 = some (.tup [V.str "address", V.str ""]) := upd_same
    replace B : Bag (upd H23 x19 (.tup [V.str "address", V.str ""])) b l := B.new h
    clear h
    generalize upd H23 x19 (.tup [V.str "address", V.str ""]) = H24 at s B e ⊢
    replace SS := SS.trans s
    replace eP := s _ _ eP
    replace AP := fun v m => (AP v m).stp (Same.stp s)
    replace A := fun v m => (A v m).stp (Same.stp s)
    have A := mema A (mem1 (P := Okv K H24 b 2) (x := .ref x19) (.tup0 na (SqT.of e) (by show 2 ≤ 100000; decide) (memc (.lit (by decide +kernel)) (mem1 (.lit (by decide +kernel))))))
    clear e na s
    refine ⟨(by show 2 ≤ sizeLine; decide), fun x20 h => ?_⟩
    have na := B.ne h
    have s : Same H24 (upd H24 x20 (.tup [V.str "address", V.str "a"])) := Same.new h
    have e : (upd H24 x20 (.tup [V.str "address", V.str "a"])) x20 = some (.tup [V.str "address", V.str "a"]) := upd_same
    replace B : Bag (upd H24 x20 (.tup [V.str "address", V.str "a"])) b l := B.new h
    clear h
    generalize upd H24 x20 (.tup [V.str "address", V.str "a"]) = H25 at s B e ⊢
    replace SS := SS.trans s
    replace eP := s _ _ eP
    replace AP := fun v m => (AP v m).stp (Same.stp s)
    replace A := fun v m => (A v m).stp (Same.stp s)
    have A := mema A (mem1 (P := Okv K H25 b 2) (x := .ref x20) (.tup0 na (SqT.of e) (by show 2 ≤ 100000; decide) (memc (.lit (by decide +kernel)) (mem1 (.lit (by decide +kernel))))))
    clear e na s
    refine ⟨(by show 1 ≤ sizeLine; decide), fun x21 h => ?_⟩
    have na := B.ne h
    have s : Same H25 (upd H25 x21 (.tup [V.str "back"])) := Same.new h
    have e : (upd H25 x21 (.tup [V.str "back"])) x21 = some (.tup [V.str "back"]) := upd_same
    replace B : Bag (upd H25 x21 (.tup [V.str "back"])) b l := B.new h
    clear h
    generalize upd H25 x21 (.tup [V.str "back"]) = H26 at s B e ⊢
    replace SS := SS.trans s
    replace eP := s _ _ eP
    replace AP := fun v m => (AP v m).stp (Same.stp s)
    replace A := fun v m => (A v m).stp (Same.stp s)
    have A := mema A (mem1 (P := Okv K H26 b 2) (x := .ref x21) (.tup0 na (SqT.of e) (by show 1 ≤ 100000; decide) (mem1 (.lit (by decide +kernel)))))
    clear e na s
    refine ⟨(by show 2 ≤ sizeLine; decide), fun x22 h => ?_⟩
    have na := B.ne h
    have s : Same H26 (upd H26 x22 (.tup [V.str "halt", V.str "a"])) := Same.new h
    have e : (upd H26 x22 (.tup [V.str "halt", V.str "a"])) x22 = some (.tup [V.str "halt", V.str "a"]) := upd_same
    replace B : Bag (upd H26 x22 (.tup [V.str "halt", V.str "a"])) b l := B.new h
    clear h
    generalize upd H26 x22 (.tup [V.str "halt", V.str "a"]) = H27 at s B e ⊢
    replace SS := SS.trans s
    replace eP := s _ _ eP
    replace AP := fun v m => (AP v m).stp (Same.stp s)
    replace A := fun v m => (A v m).stp (Same.stp s)
    have A := mema A (mem1 (P := Okv K H27 b 2) (x := .ref x22) (.tup0 na (SqT.of e) (by show 2 ≤ 100000; decide) (memc (.lit (by decide +kernel)) (mem1 (.lit (by decide +kernel))))))
    clear e na s
    refine ⟨Nat.zero_le _, fun x23 h => ?_⟩
    have na := B.ne h
    have s : Same H27 (upd H27 x23 (.tup [])) := Same.new h
    have e : (upd H27 x23 (.tup [])) x23 = some (.tup []) := upd_same
    replace B : Bag (upd H27 x23 (.tup [])) b l := B.new h
    clear h
    generalize upd H27 x23 (.tup []) = H28 at s B e ⊢
    replace SS := SS.trans s
    replace eP := s _ _ eP
    replace AP := fun v m => (AP v m).stp (Same.stp s)
    replace A := fun v m => (A v m).stp (Same.stp s)
    have A := mema A (mem1 (P := Okv K H28 b 2) (x := .ref x23) (.tup0 na (SqT.of e) (by show 0 ≤ 100000; decide) mem0))
    clear e na s
    refine ⟨(by show 7 ≤ sizeLine; decide), fun q3 h => ?_⟩
    have na := B.ne h
    have s : Same H28 (upd H28 q3 (.lst [V.ref x17, V.ref x18, V.ref x19, V.ref x20, V.ref x21, V.ref x22, V.ref x23])) := Same.new h
    have e : (upd H28 q3 (.lst [V.ref x17, V.ref x18, V.ref x19, V.ref x20, V.ref x21, V.ref x22, V.ref x23])) q3 = some (.lst [V.ref x17, V.ref x18, V.ref x19, V.ref x20, V.ref x21, V.ref x22, V.ref x23]) := upd_same
    replace B : Bag (upd H28 q3 (.lst [V.ref x17, V.ref x18, V.ref x19, V.ref x20, V.ref x21, V.ref x22, V.ref x23])) b l := B.new h
    clear h
    generalize upd H28 q3 (.lst [V.ref x17, V.ref x18, V.ref x19, V.ref x20, V.ref x21, V.ref x22, V.ref x23]) = H29 at s B e ⊢
    replace SS := SS.trans s
    replace eP := s _ _ eP
    replace AP := fun v m => (AP v m).stp (Same.stp s)
    replace A := fun v m => (A v m).stp (Same.stp s)
    have eQ := e
    clear e s
    refine ⟨c2, q3, [V.ref x1, V.ref x2, V.ref x3, V.ref x4, V.ref x5, V.ref x6, V.ref x7, V.ref x8, V.ref x9, V.ref x10, V.ref x11, V.ref x12, V.ref x13, V.ref x14, V.ref x15, V.ref x16], [V.ref x17, V.ref x18, V.ref x19, V.ref x20, V.ref x21, V.ref x22, V.ref x23], rfl, rfl, eP, eQ, (by show 16 + 7 ≤ sizeLine; decide), fun c3 h => ?_⟩
    have na := B.ne h
    have s : Same H29 (upd H29 c3 (.lst ([V.ref x1, V.ref x2, V.ref x3, V.ref x4, V.ref x5, V.ref x6, V.ref x7, V.ref x8, V.ref x9, V.ref x10, V.ref x11, V.ref x12, V.ref x13, V.ref x14, V.ref x15, V.ref x16] ++ [V.ref x17, V.ref x18, V.ref x19, V.ref x20, V.ref x21, V.ref x22, V.ref x23]))) := Same.new h
    have e : (upd H29 c3 (.lst ([V.ref x1, V.ref x2, V.ref x3, V.ref x4, V.ref x5, V.ref x6, V.ref x7, V.ref x8, V.ref x9, V.ref x10, V.ref x11, V.ref x12, V.ref x13, V.ref x14, V.ref x15, V.ref x16] ++ [V.ref x17, V.ref x18, V.ref x19, V.ref x20, V.ref x21, V.ref x22, V.ref x23]))) c3 = some (.lst [V.ref x1, V.ref x2, V.ref x3, V.ref x4, V.ref x5, V.ref x6, V.ref x7, V.ref x8, V.ref x9, V.ref x10, V.ref x11, V.ref x12, V.ref x13, V.ref x14, V.ref x15, V.ref x16, V.ref x17, V.ref x18, V.ref x19, V.ref x20, V.ref x21, V.ref x22, V.ref x23]) := upd_same
    replace B : Bag (upd H29 c3 (.lst ([V.ref x1, V.ref x2, V.ref x3, V.ref x4, V.ref x5, V.ref x6, V.ref x7, V.ref x8, V.ref x9, V.ref x10, V.ref x11, V.ref x12, V.ref x13, V.ref x14, V.ref x15, V.ref x16] ++ [V.ref x17, V.ref x18, V.ref x19, V.ref x20, V.ref x21, V.ref x22, V.ref x23]))) b l := B.new h
    clear h
    generalize upd H29 c3 (.lst ([V.ref x1, V.ref x2, V.ref x3, V.ref x4, V.ref x5, V.ref x6, V.ref x7, V.ref x8, V.ref x9, V.ref x10, V.ref x11, V.ref x12, V.ref x13, V.ref x14, V.ref x15, V.ref x16] ++ [V.ref x17, V.ref x18, V.ref x19, V.ref x20, V.ref x21, V.ref x22, V.ref x23])) = H30 at s B e ⊢
    replace SS := SS.trans s
    have AP : ∀ v ∈ [V.ref x1, V.ref x2, V.ref x3, V.ref x4, V.ref x5, V.ref x6, V.ref x7, V.ref x8, V.ref x9, V.ref x10, V.ref x11, V.ref x12, V.ref x13, V.ref x14, V.ref x15, V.ref x16, V.ref x17, V.ref x18, V.ref x19, V.ref x20, V.ref x21, V.ref x22, V.ref x23], Okv K H30 b 2 v := fun v m => (mema AP A v m).stp (Same.stp s)
    have eP := e
    have nP := na
    clear eQ A na s e
    have A : ∀ v ∈ ([] : List V), Okv K H30 b 2 v := mem0
    refine ⟨_, rfl, (by show 1 ≤ sizeLine; decide), fun x24 h => ?_⟩
    have na := B.ne h
    have s : Same H30 (upd H30 x24 (.lst [V.str "halt"])) := Same.new h
    have e : (upd H30 x24 (.lst [V.str "halt"])) x24 = some (.lst [V.str "halt"]) := upd_same
    replace B : Bag (upd H30 x24 (.lst [V.str "halt"])) b l := B.new h
    clear h
    generalize upd H30 x24 (.lst [V.str "halt"]) = H31 at s B e ⊢
    replace SS := SS.trans s
    replace eP := s _ _ eP
    replace AP := fun v m => (AP v m).stp (Same.stp s)
    replace A := fun v m => (A v m).stp (Same.stp s)
    have A := mema A (mem1 (P := Okv K H31 b 2) (x := .ref x24) (.lst0 na (SqL.of e) (by show 1 ≤ 100000; decide) (mem1 (.lit (by decide +kernel)))))
    clear e na s
    have A := mema A (mem1 (P := Okv K H31 b 2) (x := .str "halt") (.lit (by decide +kernel)))
    refine ⟨(by show 2 ≤ sizeLine; decide), fun x25 h => ?_⟩
    have na := B.ne h
    have s : Same H31 (upd H31 x25 (.tup [V.str "room", V.bl true])) := Same.new h
    have e : (upd H31 x25 (.tup [V.str "room", V.bl true])) x25 = some (.tup [V.str "room", V.bl true]) := upd_same
    replace B : Bag (upd H31 x25 (.tup [V.str "room", V.bl true])) b l := B.new h
    clear h
    generalize upd H31 x25 (.tup [V.str "room", V.bl true]) = H32 at s B e ⊢
    replace SS := SS.trans s
    replace eP := s _ _ eP
    replace AP := fun v m => (AP v m).stp (Same.stp s)
    replace A := fun v m => (A v m).stp (Same.stp s)
    have A := mema A (mem1 (P := Okv K H32 b 2) (x := .ref x25) (.tup0 na (SqT.of e) (by show 2 ≤ 100000; decide) (memc (.lit (by decide +kernel)) (mem1 .bl))))
    clear e na s
    refine ⟨(by show 4 ≤ sizeLine; decide), fun x26 h => ?_⟩
    have na := B.ne h
    have s : Same H32 (upd H32 x26 (.tup [V.str "load", V.str "r0", V.str "r1", V.bl true])) := Same.new h
    have e : (upd H32 x26 (.tup [V.str "load", V.str "r0", V.str "r1", V.bl true])) x26 = some (.tup [V.str "load", V.str "r0", V.str "r1", V.bl true]) := upd_same
    replace B : Bag (upd H32 x26 (.tup [V.str "load", V.str "r0", V.str "r1", V.bl true])) b l := B.new h
    clear h
    generalize upd H32 x26 (.tup [V.str "load", V.str "r0", V.str "r1", V.bl true]) = H33 at s B e ⊢
    replace SS := SS.trans s
    replace eP := s _ _ eP
    replace AP := fun v m => (AP v m).stp (Same.stp s)
    replace A := fun v m => (A v m).stp (Same.stp s)
    have A := mema A (mem1 (P := Okv K H33 b 2) (x := .ref x26) (.tup0 na (SqT.of e) (by show 4 ≤ 100000; decide) (memc (.lit (by decide +kernel)) (memc (.lit (by decide +kernel)) (memc (.lit (by decide +kernel)) (mem1 .bl))))))
    clear e na s
    refine ⟨(by show 2 ≤ sizeLine; decide), fun x27 h => ?_⟩
    have na := B.ne h
    have s : Same H33 (upd H33 x27 (.tup [V.str "add", V.str "r0"])) := Same.new h
    have e : (upd H33 x27 (.tup [V.str "add", V.str "r0"])) x27 = some (.tup [V.str "add", V.str "r0"]) := upd_same
    replace B : Bag (upd H33 x27 (.tup [V.str "add", V.str "r0"])) b l := B.new h
    clear h
    generalize upd H33 x27 (.tup [V.str "add", V.str "r0"]) = H34 at s B e ⊢
    replace SS := SS.trans s
    replace eP := s _ _ eP
    replace AP := fun v m => (AP v m).stp (Same.stp s)
    replace A := fun v m => (A v m).stp (Same.stp s)
    have A := mema A (mem1 (P := Okv K H34 b 2) (x := .ref x27) (.tup0 na (SqT.of e) (by show 2 ≤ 100000; decide) (memc (.lit (by decide +kernel)) (mem1 (.lit (by decide +kernel))))))
    clear e na s
    refine ⟨(by show 3 ≤ sizeLine; decide), fun x28 h => ?_⟩
    have na := B.ne h
    have s : Same H34 (upd H34 x28 (.tup [V.str "out", V.str "r0", V.str "r1"])) := Same.new h
    have e : (upd H34 x28 (.tup [V.str "out", V.str "r0", V.str "r1"])) x28 = some (.tup [V.str "out", V.str "r0", V.str "r1"]) := upd_same
    replace B : Bag (upd H34 x28 (.tup [V.str "out", V.str "r0", V.str "r1"])) b l := B.new h
    clear h
    generalize upd H34 x28 (.tup [V.str "out", V.str "r0", V.str "r1"]) = H35 at s B e ⊢
    replace SS := SS.trans s
    replace eP := s _ _ eP
    replace AP := fun v m => (AP v m).stp (Same.stp s)
    replace A := fun v m => (A v m).stp (Same.stp s)
    have A := mema A (mem1 (P := Okv K H35 b 2) (x := .ref x28) (.tup0 na (SqT.of e) (by show 3 ≤ 100000; decide) (memc (.lit (by decide +kernel)) (memc (.lit (by decide +kernel)) (mem1 (.lit (by decide +kernel)))))))
    clear e na s
    refine ⟨(by show 1 ≤ sizeLine; decide), fun x29 h => ?_⟩
    have na := B.ne h
    have s : Same H35 (upd H35 x29 (.lst [V.str "halt"])) := Same.new h
    have e : (upd H35 x29 (.lst [V.str "halt"])) x29 = some (.lst [V.str "halt"]) := upd_same
    replace B : Bag (upd H35 x29 (.lst [V.str "halt"])) b l := B.new h
    clear h
    generalize upd H35 x29 (.lst [V.str "halt"]) = H36 at s B e ⊢
    replace SS := SS.trans s
    replace eP := s _ _ eP
    replace AP := fun v m => (AP v m).stp (Same.stp s)
    replace A := fun v m => (A v m).stp (Same.stp s)
    have oi : Okv K H36 b 1 (.ref x29) := .lst0 na (SqL.of e) (by decide) (mem1 (.lit (by decide +kernel)))
    clear e na s
    refine ⟨(by show 1 ≤ sizeLine; decide), fun x30 h => ?_⟩
    have na := B.ne h
    have s : Same H36 (upd H36 x30 (.tup [V.ref x29])) := Same.new h
    have e : (upd H36 x30 (.tup [V.ref x29])) x30 = some (.tup [V.ref x29]) := upd_same
    replace B : Bag (upd H36 x30 (.tup [V.ref x29])) b l := B.new h
    clear h
    generalize upd H36 x30 (.tup [V.ref x29]) = H37 at s B e ⊢
    replace SS := SS.trans s
    replace eP := s _ _ eP
    replace AP := fun v m => (AP v m).stp (Same.stp s)
    replace A := fun v m => (A v m).stp (Same.stp s)
    replace oi := oi.stp (Same.stp s)
    have A := mema A (mem1 (P := Okv K H37 b 2) (x := .ref x30) (.tup0 na (SqT.of e) (by show 1 ≤ 100000; decide) (mem1 oi)))
    clear e na s oi
    refine ⟨(by show 7 ≤ sizeLine; decide), fun q4 h => ?_⟩
    have na := B.ne h
    have s : Same H37 (upd H37 q4 (.lst [V.ref x24, V.str "halt", V.ref x25, V.ref x26, V.ref x27, V.ref x28, V.ref x30])) := Same.new h
    have e : (upd H37 q4 (.lst [V.ref x24, V.str "halt", V.ref x25, V.ref x26, V.ref x27, V.ref x28, V.ref x30])) q4 = some (.lst [V.ref x24, V.str "halt", V.ref x25, V.ref x26, V.ref x27, V.ref x28, V.ref x30]) := upd_same
    replace B : Bag (upd H37 q4 (.lst [V.ref x24, V.str "halt", V.ref x25, V.ref x26, V.ref x27, V.ref x28, V.ref x30])) b l := B.new h
    clear h
    generalize upd H37 q4 (.lst [V.ref x24, V.str "halt", V.ref x25, V.ref x26, V.ref x27, V.ref x28, V.ref x30]) = H38 at s B e ⊢
    replace SS := SS.trans s
    replace eP := s _ _ eP
    replace AP := fun v m => (AP v m).stp (Same.stp s)
    replace A := fun v m => (A v m).stp (Same.stp s)
    have eQ := e
    clear e s
    refine ⟨c3, q4, [V.ref x1, V.ref x2, V.ref x3, V.ref x4, V.ref x5, V.ref x6, V.ref x7, V.ref x8, V.ref x9, V.ref x10, V.ref x11, V.ref x12, V.ref x13, V.ref x14, V.ref x15, V.ref x16, V.ref x17, V.ref x18, V.ref x19, V.ref x20, V.ref x21, V.ref x22, V.ref x23], [V.ref x24, V.str "halt", V.ref x25, V.ref x26, V.ref x27, V.ref x28, V.ref x30], rfl, rfl, eP, eQ, (by show 23 + 7 ≤ sizeLine; decide), fun c4 h => ?_⟩
    have na := B.ne h
    have s : Same H38 (upd H38 c4 (.lst ([V.ref x1, V.ref x2, V.ref x3, V.ref x4, V.ref x5, V.ref x6, V.ref x7, V.ref x8, V.ref x9, V.ref x10, V.ref x11, V.ref x12, V.ref x13, V.ref x14, V.ref x15, V.ref x16, V.ref x17, V.ref x18, V.ref x19, V.ref x20, V.ref x21, V.ref x22, V.ref x23] ++ [V.ref x24, V.str "halt", V.ref x25, V.ref x26, V.ref x27, V.ref x28, V.ref x30]))) := Same.new h
    have e : (upd H38 c4 (.lst ([V.ref x1, V.ref x2, V.ref x3, V.ref x4, V.ref x5, V.ref x6, V.ref x7, V.ref x8, V.ref x9, V.ref x10, V.ref x11, V.ref x12, V.ref x13, V.ref x14, V.ref x15, V.ref x16, V.ref x17, V.ref x18, V.ref x19, V.ref x20, V.ref x21, V.ref x22, V.ref x23] ++ [V.ref x24, V.str "halt", V.ref x25, V.ref x26, V.ref x27, V.ref x28, V.ref x30]))) c4 = some (.lst [V.ref x1, V.ref x2, V.ref x3, V.ref x4, V.ref x5, V.ref x6, V.ref x7, V.ref x8, V.ref x9, V.ref x10, V.ref x11, V.ref x12, V.ref x13, V.ref x14, V.ref x15, V.ref x16, V.ref x17, V.ref x18, V.ref x19, V.ref x20, V.ref x21, V.ref x22, V.ref x23, V.ref x24, V.str "halt", V.ref x25, V.ref x26, V.ref x27, V.ref x28, V.ref x30]) := upd_same
    replace B : Bag (upd H38 c4 (.lst ([V.ref x1, V.ref x2, V.ref x3, V.ref x4, V.ref x5, V.ref x6, V.ref x7, V.ref x8, V.ref x9, V.ref x10, V.ref x11, V.ref x12, V.ref x13, V.ref x14, V.ref x15, V.ref x16, V.ref x17, V.ref x18, V.ref x19, V.ref x20, V.ref x21, V.ref x22, V.ref x23] ++ [V.ref x24, V.str "halt", V.ref x25, V.ref x26, V.ref x27, V.ref x28, V.ref x30]))) b l := B.new h
    clear h
    generalize upd H38 c4 (.lst ([V.ref x1, V.ref x2, V.ref x3, V.ref x4, V.ref x5, V.ref x6, V.ref x7, V.ref x8, V.ref x9, V.ref x10, V.ref x11, V.ref x12, V.ref x13, V.ref x14, V.ref x15, V.ref x16, V.ref x17, V.ref x18, V.ref x19, V.ref x20, V.ref x21, V.ref x22, V.ref x23] ++ [V.ref x24, V.str "halt", V.ref x25, V.ref x26, V.ref x27, V.ref x28, V.ref x30])) = H39 at s B e ⊢
    replace SS := SS.trans s
    have AP : ∀ v ∈ [V.ref x1, V.ref x2, V.ref x3, V.ref x4, V.ref x5, V.ref x6, V.ref x7, V.ref x8, V.ref x9, V.ref x10, V.ref x11, V.ref x12, V.ref x13, V.ref x14, V.ref x15, V.ref x16, V.ref x17, V.ref x18, V.ref x19, V.ref x20, V.ref x21, V.ref x22, V.ref x23, V.ref x24, V.str "halt", V.ref x25, V.ref x26, V.ref x27, V.ref x28, V.ref x30], Okv K H39 b 2 v := fun v m => (mema AP A v m).stp (Same.stp s)
    have eP := e
    have nP := na
    clear eQ A na s e
    exact k _ c4 _ SS B eP nP (by simp) (by simp) AP
end

section
variable {P : Program} {w : World} {K : PySem.W.Frag} {mg : Str → Option Value} {base : Heap} {Z : Fs}
def rwords : List V := [.str "put", .str "name", .str "add", .str "take", .str "load", .str "store", .str "jump", .str "ifzero", .str "call", .str "callby", .str "back", .str "out", .str "halt", .str "room", .str "word", .str "address", .str "near", .str "Put"]
def okW : V → Bool
  | .str z => decide (z.cps.size ≤ 100000) && z.cps.toList.all fun c => decide (c < 1114112)
  | _ => false
theorem okW_words : rwords.all okW = true := by decide +kernel
def sp_law_row_words : Sp := fun vs H Q _ => vs = [] ∧ ∀ (H' : Hp) (p : Addr), Same H H' → H p = none → H' p = some (.lst rwords) → Q (.ref p) H'
theorem ok_law_row_words (T : Txt K w mg Z) : FnOk P w K mg base CX0 1 Z.a_law_row_words Z.d_law_row_words [] sp_law_row_words := by
  refine T.F_law_row_words.ok sc_law_row_words (fun vs H Q E h => ?_) (fun cdv A outer s H vs Q E hr h => ?_)
  · obtain ⟨rfl, _⟩ := h
    rfl
  · obtain ⟨rfl, k⟩ := h
    refine ⟨_, (pss_cons (ps_set (i := 0) sc_law_row_words.nd rfl (Or.inl rfl) (pe_lst (pa_cons pe_str (pa_cons pe_str (pa_cons pe_str (pa_cons pe_str (pa_cons pe_str (pa_cons pe_str (pa_cons pe_str (pa_cons pe_str (pa_cons pe_str (pa_cons pe_str (pa_cons pe_str (pa_cons pe_str pa_nil))))))))))))))
      (pss_one (ps_ret (pe_op op_cat (pv 0) (pe_lst (pa_cons pe_str (pa_cons pe_str (pa_cons pe_str (pa_cons pe_str (pa_cons pe_str (pa_cons pe_str pa_nil))))))))))), ?_⟩
    refine ⟨(by show 12 ≤ sizeLine; decide), fun p1 h1 => ?_⟩
    have s1 : Same H (upd H p1 (.lst (rwords.take 12))) := Same.new h1
    have e1 : (upd H p1 (.lst (rwords.take 12))) p1 = some (.lst (rwords.take 12)) := upd_same
    refine ⟨_, rfl, (by show 6 ≤ sizeLine; decide), fun p2 h2 => ?_⟩
    change (upd H p1 (.lst (rwords.take 12))) p2 = none at h2
    refine ⟨p1, p2, rwords.take 12, rwords.drop 12, rfl, rfl, (Same.new h2) _ _ e1, upd_same, (by show 12 + 6 ≤ sizeLine; decide), fun p3 h3 => ?_⟩
    exact k _ p3 ((s1.trans (Same.new h2)).trans (Same.new h3)) ((s1.trans (Same.new h2)).free h3) upd_same
/-! ### a bent row -/
theorem mem_cut {x : V} {xs : List V} {lo hi : Option Int} (h : x ∈ cutV xs lo hi) : x ∈ xs := List.mem_of_mem_drop (List.mem_of_mem_take h)
/-- the items of a bent row, as they stand between the ifs -/
def BentI (K : PySem.W.Frag) (b l a t : Addr) (d sp : Int) (x : V) (H0 : Hp) (m : Nat) : L2.St → Hp → Prop := fun σ H => ∃ (q : Addr) (ys : List V), σ = [some (.ref b), some (.ref a), some (.ref t), some (.ref q), some (.int d), some (.int sp), some x] ∧ Bag H b l ∧ Stp b H0 H ∧ H q = some (.lst ys) ∧ q ≠ b ∧ ys.length ≤ m ∧ ∀ y ∈ ys, Okv K H b 1 y
theorem BentI.up {K : PySem.W.Frag} {b l a t : Addr} {d sp : Int} {x : V} {H0 H : Hp} {m m' : Nat} {σ : L2.St} (hm : m ≤ m') (h : BentI K b l a t d sp x H0 m σ H) : BentI K b l a t d sp x H0 m' σ H := by
  obtain ⟨q, ys, h1, h2, h3, h4, h5, h6, h7⟩ := h
  exact ⟨q, ys, h1, h2, h3, h4, h5, by omega, h7⟩
end
section
variable {P : Program} {w : World} {K : PySem.W.Frag} {mg : Str → Option Value} {base : Heap} {Z : Fs}
def sp_law_bent_row (K : PySem.W.Frag) : Sp := fun vs H Q _ => ∃ (b l a t : Addr) (xs : List V) (ts : List Str), vs = [.ref b, .ref a, .ref t] ∧ Bag H b l ∧ H a = some (.tup xs) ∧ 1 ≤ xs.length ∧ xs.length ≤ 4 ∧ (∀ x ∈ xs, Okv K H b 1 x) ∧ Tls H b t ts ∧ (∀ z ∈ ts, Nm z) ∧ ∀ (H' : Hp) (p : Addr) (ys : List V), Stp b H H' → Bag H' b l → H' p = some (.tup ys) → p ≠ b → ys.length ≤ 100 → (∀ y ∈ ys, Okv K H' b 1 y) → Q (.ref p) H'
theorem ok_law_bent_row (T : Txt K w mg Z) : FnOk P w K mg base CX0 3 Z.a_law_bent_row Z.d_law_bent_row ["_law_bag_here", "_law_one", "_law_titles_here"] (sp_law_bent_row K) := by
  have G_law_draw : FnOk P w K mg base CX0 1 Z.a_law_draw Z.d_law_draw ["_law_bag_here", "_law_sides"] sp_law_draw := ok_law_draw T
  have G_law_of : FnOk P w K mg base CX0 2 Z.a_law_of Z.d_law_of ["_law_bag_here", "_law_things"] (sp_law_of K) := ok_law_of T
  have G_law_row_words : FnOk P w K mg base CX0 1 Z.a_law_row_words Z.d_law_row_words [] sp_law_row_words := ok_law_row_words T
  refine T.F_law_bent_row.ok sc_law_bent_row (fun vs H Q E h => ?_) (fun cdv A outer s H vs Q E hr h => ?_)
  · obtain ⟨b, l, a, t, xs, ts, rfl, _⟩ := h
    rfl
  · obtain ⟨b, l, a, t, xs, ts, rfl, B, ex, l1, l4, okx, TT, hz, k⟩ := h
    refine ⟨_, (pss_cons (ps_par (i := 3) (j := 4) (by rfl) sc_law_bent_row.nd rfl rfl (by decide) rfl rfl (pa_cons (pe_callTy call_list_of (by rfl) T.n_list boot_list (pa_cons (pv 1) pa_nil)) (pa_cons (pe_call G_law_draw (hr.mono (by omega)) (by rfl) T.m_law_draw T.F_law_draw.kp T.b_law_draw .nil pass0 (pa_cons (pv 0) (pa_cons pe_int pa_nil))) pa_nil)) (by rfl))
      (pss_cons (ps_set (i := 5) sc_law_bent_row.nd rfl (Or.inl rfl) (pe_call G_law_draw (hr.mono (by omega)) (by rfl) T.m_law_draw T.F_law_draw.kp T.b_law_draw .nil pass0 (pa_cons (pv 0) (pa_cons (pe_callB call_len (by rfl) T.n_len boot_len (pa_cons (pv 3) pa_nil)) pa_nil))))
      (pss_cons (ps_set (i := 6) sc_law_bent_row.nd rfl (Or.inl rfl) (pe_call G_law_of (hr.mono (by omega)) (by rfl) T.m_law_of T.F_law_of.kp T.b_law_of .nil pass0 (pa_cons (pv 0) (pa_cons (pe_lst (pa_cons pe_non (pa_cons pe_bl (pa_cons pe_bl (pa_cons pe_str (pa_cons pe_str (pa_cons pe_str (pa_cons pe_str (pa_cons pe_str (pa_cons pe_int (pa_cons (pe_un un_neg pe_int) (pa_cons pe_int (pa_cons pe_int (pa_cons pe_int (pa_cons (pe_tup (pa_cons pe_str pa_nil)) (pa_cons (pe_lst (pa_cons pe_str pa_nil)) (pa_cons (pe_ix ix_list (pv 2) pe_int (fun _ _ => rfl)) pa_nil))))))))))))))))) pa_nil))))
      (C8.pss_cut (ps_if (pt_cmpR op_eq (pv 4) pe_int (nomark _)) (pss_one (ps_set (i := 3) sc_law_bent_row.nd rfl (Or.inl rfl) (pe_op op_cat (pe_slice sl_list (pv 3) po_none (po_some (pv 5))) (pe_slice sl_list (pv 3) (po_some (pe_op op_add (pv 5) pe_int)) po_none)))) pss_nil)
      (C8.pss_cut (ps_if (pt_cmpR op_eq (pv 4) pe_int (nomark _)) (pss_one (ps_set (i := 3) sc_law_bent_row.nd rfl (Or.inl rfl) (pe_op op_cat (pe_op op_cat (pe_slice sl_list (pv 3) po_none (po_some (pv 5))) (pe_lst (pa_cons (pv 6) pa_nil))) (pe_slice sl_list (pv 3) (po_some (pv 5)) po_none)))) pss_nil)
      (C8.pss_cut (ps_if (pt_cmpR op_eq (pv 4) pe_int (nomark _)) (pss_one (ps_set (i := 3) sc_law_bent_row.nd rfl (Or.inl rfl) (pe_op op_cat (pe_op op_cat (pe_slice sl_list (pv 3) po_none (po_some (pv 5))) (pe_lst (pa_cons (pv 6) pa_nil))) (pe_slice sl_list (pv 3) (po_some (pe_op op_add (pv 5) pe_int)) po_none)))) pss_nil)
      (C8.pss_cut (ps_if (pt_cmpR op_eq (pv 4) pe_int (nomark _)) (pss_one (ps_set (i := 3) sc_law_bent_row.nd rfl (Or.inl rfl) (pe_op op_cat (pe_lst (pa_cons (pe_call G_law_of (hr.mono (by omega)) (by rfl) T.m_law_of T.F_law_of.kp T.b_law_of .nil pass0 (pa_cons (pv 0) (pa_cons (pe_call0 G_law_row_words (hr.mono (by omega)) (by rfl) T.m_law_row_words T.F_law_row_words.kp T.b_law_row_words .nil pass0 ) pa_nil))) pa_nil)) (pe_slice sl_list (pv 3) (po_some pe_int) po_none)))) pss_nil)
      (pss_one (ps_ret (pe_callTy call_tuple_of (by rfl) T.n_tuple boot_tuple (pa_cons (pv 3) pa_nil))))))))))), ?_⟩
    refine ⟨.ref a, rfl, a, xs, rfl, .inr (SqT.of ex), fun q hq => ?_⟩
    have nq := B.ne hq
    have s1 : Same H (upd H q (.lst xs)) := Same.new hq
    have eq : (upd H q (.lst xs)) q = some (.lst xs) := upd_same
    generalize upd H q (.lst xs) = H1 at s1 eq ⊢
    have B1 := B.same s1
    refine ⟨.ref b, rfl, b, l, 5, rfl, B1, by decide, by decide, fun H2 d s2 B2 _ _ => ⟨_, _, rfl, ?_⟩⟩
    have eq2 := s2 _ _ nq eq
    refine ⟨.ref b, rfl, .ref q, rfl, .ref q, xs.length, rfl, .inl ⟨_, SqL.of eq2, rfl⟩, b, l, xs.length, rfl, B2, by omega, by omega, fun H3 sp s3 B3 g0 g1 => ?_⟩
    have eq3 := s3 _ _ nq eq2
    have t3 : Stp b H H3 := ((Same.stp s1).trans s2).trans s3
    have TT3 := TT.stp t3
    refine ⟨.ref b, rfl, 1, rfl, (by show 1 ≤ sizeLine; decide), fun p1 h1 => ?_⟩
    have n1 := B3.ne h1
    have s4 : Same H3 (upd H3 p1 (.tup [V.str "a"])) := Same.new h1
    have e1 : (upd H3 p1 (.tup [V.str "a"])) p1 = some (.tup [V.str "a"]) := upd_same
    generalize upd H3 p1 (.tup [V.str "a"]) = H4 at s4 e1 ⊢
    have B4 := B3.same s4
    refine ⟨(by show 1 ≤ sizeLine; decide), fun p2 h2 => ?_⟩
    have n2 := B4.ne h2
    have s5 : Same H4 (upd H4 p2 (.lst [V.str "a"])) := Same.new h2
    have e2 : (upd H4 p2 (.lst [V.str "a"])) p2 = some (.lst [V.str "a"]) := upd_same
    generalize upd H4 p2 (.lst [V.str "a"]) = H5 at s5 e2 ⊢
    have B5 := B4.same s5
    replace e1 := s5 _ _ e1
    have TT5 := (TT3.stp (Same.stp s4)).stp (Same.stp s5)
    obtain ⟨z, ts', rfl⟩ : ∃ z ts', ts = z :: ts' := by
      cases ts with
      | nil => exact absurd TT.2.2.1 (by decide)
      | cons z ts' => exact ⟨z, ts', rfl⟩
    refine ⟨.ref t, rfl, t, _, 0, .str z, rfl, rfl, SqL.of TT5.1, atI_nat (j := 0) rfl, (by show 16 ≤ sizeLine; decide), fun p3 h3 => ?_⟩
    have n3 := B5.ne h3
    have s6 : Same H5 (upd H5 p3 (.lst [.non, .bl true, .bl false, .str "", .str "A", .str "abcdefg", .str "r3", .str "r0", .int 0, .int (-1), .int 16, .int 121, .int 65536, .ref p1, .ref p2, .str z])) := Same.new h3
    have e3 : (upd H5 p3 (.lst [.non, .bl true, .bl false, .str "", .str "A", .str "abcdefg", .str "r3", .str "r0", .int 0, .int (-1), .int 16, .int 121, .int 65536, .ref p1, .ref p2, .str z])) p3 = some (.lst [.non, .bl true, .bl false, .str "", .str "A", .str "abcdefg", .str "r3", .str "r0", .int 0, .int (-1), .int 16, .int 121, .int 65536, .ref p1, .ref p2, .str z]) := upd_same
    generalize upd H5 p3 (.lst [.non, .bl true, .bl false, .str "", .str "A", .str "abcdefg", .str "r3", .str "r0", .int 0, .int (-1), .int 16, .int 121, .int 65536, .ref p1, .ref p2, .str z]) = H6 at s6 e3 ⊢
    have B6 := B5.same s6
    refine ⟨b, l, .ref p3, fun v => Okv K H6 b 1 v, rfl, B6, .lst n3 (SqL.of e3) (by show 0 < 16; decide) (by show 16 ≤ 100000; decide) ?_, fun H7 x s7 B7 ox => ?_⟩
    · refine memc .non (memc .bl (memc .bl (memc (.lit (by decide +kernel)) (memc (.lit (by decide +kernel)) (memc (.lit (by decide +kernel)) (memc (.lit (by decide +kernel)) (memc (.lit (by decide +kernel)) (memc .int (memc .int (memc .int (memc .int (memc .int (memc ?_ (memc ?_ (mem1 (.str (hz z (List.mem_cons_self ..)).strK))))))))))))))))
      · exact .tup0 n1 (SqT.of (s6 _ _ e1)) (by decide) (mem1 (.lit (by decide +kernel)))
      · exact .lst0 n2 (SqL.of (s6 _ _ e2)) (by decide) (mem1 (.lit (by decide +kernel)))
    replace ox := ox.stp s7
    have t7 : Stp b H3 H7 := (Same.stp ((s4.trans s5).trans s6)).trans s7
    have I0 : BentI K b l a t d sp x H7 4 [some (.ref b), some (.ref a), some (.ref t), some (.ref q), some (.int d), some (.int sp), some x] H7 :=
      ⟨q, xs, rfl, B7, Stp.refl, t7 _ _ nq eq3, nq, l4, fun y m => (okx y m).stp (t3.trans t7)⟩
    have tt : Stp b H H7 := t3.trans t7
    clear s1 s2 s3 s4 s5 s6 s7 t3 t7 TT5 TT3 eq eq2 eq3 e1 e2 e3 n1 n2 n3 B1 B2 B3 B4 B5 B6 nq B ex okx TT
    -- left out
    refine ⟨BentI K b l a t d sp x H7 8, ⟨_, rfl, rfl, _, rfl, ite2 (fun _ => ?_) (fun _ => I0.up (by omega))⟩, fun σ' G' I' => ?_⟩
    · obtain ⟨q, ys, e0, B, ss, eq, nq, ly, oy⟩ := I0
      cases e0
      refine ⟨.ref q, rfl, .int sp, rfl, sp, rfl, q, ys, rfl, SqL.of eq, fun c1 f1 => ?_⟩
      have s1 : Same H7 (upd H7 c1 (.lst (cutV ys none (some sp)))) := Same.new f1
      have g1 : (upd H7 c1 (.lst (cutV ys none (some sp)))) c1 = some (.lst (cutV ys none (some sp))) := upd_same
      generalize upd H7 c1 (.lst (cutV ys none (some sp))) = K1 at s1 g1 ⊢
      have B1 := B.same s1
      have u1 := cutV_length ys none (some sp)
      have u2 := cutV_length ys (some (sp + 1)) none
      refine ⟨.ref q, rfl, .int sp, rfl, sp, 1, rfl, rfl, sp + 1, rfl, q, ys, rfl, SqL.of (s1 _ _ eq), fun c2 f2 => ?_⟩
      have s2 : Same K1 (upd K1 c2 (.lst (cutV ys (some (sp + 1)) none))) := Same.new f2
      have g2 : (upd K1 c2 (.lst (cutV ys (some (sp + 1)) none))) c2 = some (.lst (cutV ys (some (sp + 1)) none)) := upd_same
      generalize upd K1 c2 (.lst (cutV ys (some (sp + 1)) none)) = K2 at s2 g2 ⊢
      have B2 := B1.same s2
      refine ⟨c1, c2, _, _, rfl, rfl, s2 _ _ g1, g2, Nat.le_trans (show _ ≤ 8 by omega) (by decide), fun c3 f3 => ?_⟩
      have m3 := B2.ne f3
      have sz : Stp b H7 (upd K2 c3 (.lst (cutV ys none (some sp) ++ cutV ys (some (sp + 1)) none))) := Same.stp ((s1.trans s2).trans (Same.new f3))
      refine ⟨c3, _, rfl, B2.new f3, ss.trans sz, upd_same, m3, ?_, mema (fun y m => (oy y (mem_cut m)).stp sz) (fun y m => (oy y (mem_cut m)).stp sz)⟩
      rw [List.length_append]
      omega
    clear I0
    obtain ⟨q', ys', e', B', ss', eq', nq', ly', oy'⟩ := I'
    cases e'
    have I1 : BentI K b l a t d sp x H7 8 [some (.ref b), some (.ref a), some (.ref t), some (.ref q'), some (.int d), some (.int sp), some x] G' := ⟨q', ys', rfl, B', ss', eq', nq', ly', oy'⟩
    clear B' ss' eq' nq' ly' oy'
    -- put in
    refine ⟨BentI K b l a t d sp x H7 17, ⟨_, rfl, rfl, _, rfl, ite2 (fun _ => ?_) (fun _ => I1.up (by omega))⟩, fun σ'' G'' I'' => ?_⟩
    · obtain ⟨q, ys, e0, B, ss, eq, nq, ly, oy⟩ := I1
      cases e0
      refine ⟨.ref q', rfl, .int sp, rfl, sp, rfl, q', ys, rfl, SqL.of eq, fun c1 f1 => ?_⟩
      have s1 : Same G' (upd G' c1 (.lst (cutV ys none (some sp)))) := Same.new f1
      have g1 : (upd G' c1 (.lst (cutV ys none (some sp)))) c1 = some (.lst (cutV ys none (some sp))) := upd_same
      generalize upd G' c1 (.lst (cutV ys none (some sp))) = K1 at s1 g1 ⊢
      have B1 := B.same s1
      have u1 := cutV_length ys none (some sp)
      have u2 := cutV_length ys (some sp) none
      refine ⟨_, rfl, (by show 1 ≤ sizeLine; decide), fun c4 f4 => ?_⟩
      have s2 : Same K1 (upd K1 c4 (.lst [x])) := Same.new f4
      have g2 : (upd K1 c4 (.lst [x])) c4 = some (.lst [x]) := upd_same
      generalize upd K1 c4 (.lst [x]) = K2 at s2 g2 ⊢
      have B2 := B1.same s2
      refine ⟨c1, c4, _, _, rfl, rfl, s2 _ _ g1, g2, Nat.le_trans (show _ ≤ 8 + 1 by rw [List.length_singleton]; omega) (by decide), fun c5 f5 => ?_⟩
      have s3 : Same K2 (upd K2 c5 (.lst (cutV ys none (some sp) ++ [x]))) := Same.new f5
      have g3 : (upd K2 c5 (.lst (cutV ys none (some sp) ++ [x]))) c5 = some (.lst (cutV ys none (some sp) ++ [x])) := upd_same
      generalize upd K2 c5 (.lst (cutV ys none (some sp) ++ [x])) = K3 at s3 g3 ⊢
      have B3 := B2.same s3
      have tt3 := (s1.trans s2).trans s3
      refine ⟨.ref q', rfl, .int sp, rfl, sp, rfl, q', ys, rfl, SqL.of (tt3 _ _ eq), fun c2 f2 => ?_⟩
      have s4 : Same K3 (upd K3 c2 (.lst (cutV ys (some sp) none))) := Same.new f2
      have g4 : (upd K3 c2 (.lst (cutV ys (some sp) none))) c2 = some (.lst (cutV ys (some sp) none)) := upd_same
      generalize upd K3 c2 (.lst (cutV ys (some sp) none)) = K4 at s4 g4 ⊢
      have B4 := B3.same s4
      refine ⟨c5, c2, _, _, rfl, rfl, s4 _ _ g3, g4, Nat.le_trans (show _ ≤ 17 by rw [List.length_append, List.length_singleton]; omega) (by decide), fun c3 f3 => ?_⟩
      have m3 := B4.ne f3
      have sz : Stp b G' (upd K4 c3 (.lst (cutV ys none (some sp) ++ [x] ++ cutV ys (some sp) none))) := Same.stp ((tt3.trans s4).trans (Same.new f3))
      refine ⟨c3, _, rfl, B4.new f3, ss.trans sz, upd_same, m3, ?_, mema (mema (fun y m => (oy y (mem_cut m)).stp sz) (mem1 (ox.stp (ss.trans sz)))) (fun y m => (oy y (mem_cut m)).stp sz)⟩
      rw [List.length_append, List.length_append, List.length_singleton]
      omega
    clear I1
    clear q' ys' G'
    obtain ⟨q', ys', e', B', ss', eq', nq', ly', oy'⟩ := I''
    cases e'
    have I1 : BentI K b l a t d sp x H7 17 [some (.ref b), some (.ref a), some (.ref t), some (.ref q'), some (.int d), some (.int sp), some x] G'' := ⟨q', ys', rfl, B', ss', eq', nq', ly', oy'⟩
    clear B' ss' eq' nq' ly' oy'
    rename Hp => G'
    -- bent
    refine ⟨BentI K b l a t d sp x H7 35, ⟨_, rfl, rfl, _, rfl, ite2 (fun _ => ?_) (fun _ => I1.up (by omega))⟩, fun σ'' G'' I'' => ?_⟩
    · obtain ⟨q, ys, e0, B, ss, eq, nq, ly, oy⟩ := I1
      cases e0
      refine ⟨.ref q', rfl, .int sp, rfl, sp, rfl, q', ys, rfl, SqL.of eq, fun c1 f1 => ?_⟩
      have s1 : Same G' (upd G' c1 (.lst (cutV ys none (some sp)))) := Same.new f1
      have g1 : (upd G' c1 (.lst (cutV ys none (some sp)))) c1 = some (.lst (cutV ys none (some sp))) := upd_same
      generalize upd G' c1 (.lst (cutV ys none (some sp))) = K1 at s1 g1 ⊢
      have B1 := B.same s1
      have u1 := cutV_length ys none (some sp)
      have u2 := cutV_length ys (some (sp + 1)) none
      refine ⟨_, rfl, (by show 1 ≤ sizeLine; decide), fun c4 f4 => ?_⟩
      have s2 : Same K1 (upd K1 c4 (.lst [x])) := Same.new f4
      have g2 : (upd K1 c4 (.lst [x])) c4 = some (.lst [x]) := upd_same
      generalize upd K1 c4 (.lst [x]) = K2 at s2 g2 ⊢
      have B2 := B1.same s2
      refine ⟨c1, c4, _, _, rfl, rfl, s2 _ _ g1, g2, Nat.le_trans (show _ ≤ 17 + 1 by rw [List.length_singleton]; omega) (by decide), fun c5 f5 => ?_⟩
      have s3 : Same K2 (upd K2 c5 (.lst (cutV ys none (some sp) ++ [x]))) := Same.new f5
      have g3 : (upd K2 c5 (.lst (cutV ys none (some sp) ++ [x]))) c5 = some (.lst (cutV ys none (some sp) ++ [x])) := upd_same
      generalize upd K2 c5 (.lst (cutV ys none (some sp) ++ [x])) = K3 at s3 g3 ⊢
      have B3 := B2.same s3
      have tt3 := (s1.trans s2).trans s3
      refine ⟨.ref q', rfl, .int sp, rfl, sp, 1, rfl, rfl, sp + 1, rfl, q', ys, rfl, SqL.of (tt3 _ _ eq), fun c2 f2 => ?_⟩
      have s4 : Same K3 (upd K3 c2 (.lst (cutV ys (some (sp + 1)) none))) := Same.new f2
      have g4 : (upd K3 c2 (.lst (cutV ys (some (sp + 1)) none))) c2 = some (.lst (cutV ys (some (sp + 1)) none)) := upd_same
      generalize upd K3 c2 (.lst (cutV ys (some (sp + 1)) none)) = K4 at s4 g4 ⊢
      have B4 := B3.same s4
      refine ⟨c5, c2, _, _, rfl, rfl, s4 _ _ g3, g4, Nat.le_trans (show _ ≤ 35 by rw [List.length_append, List.length_singleton]; omega) (by decide), fun c3 f3 => ?_⟩
      have m3 := B4.ne f3
      have sz : Stp b G' (upd K4 c3 (.lst (cutV ys none (some sp) ++ [x] ++ cutV ys (some (sp + 1)) none))) := Same.stp ((tt3.trans s4).trans (Same.new f3))
      refine ⟨c3, _, rfl, B4.new f3, ss.trans sz, upd_same, m3, ?_, mema (mema (fun y m => (oy y (mem_cut m)).stp sz) (mem1 (ox.stp (ss.trans sz)))) (fun y m => (oy y (mem_cut m)).stp sz)⟩
      rw [List.length_append, List.length_append, List.length_singleton]
      omega
    clear I1
    clear q' ys' G'
    obtain ⟨q', ys', e', B', ss', eq', nq', ly', oy'⟩ := I''
    cases e'
    have I1 : BentI K b l a t d sp x H7 35 [some (.ref b), some (.ref a), some (.ref t), some (.ref q'), some (.int d), some (.int sp), some x] G'' := ⟨q', ys', rfl, B', ss', eq', nq', ly', oy'⟩
    clear B' ss' eq' nq' ly' oy'
    rename Hp => G'
    -- another word
    refine ⟨BentI K b l a t d sp x H7 36, ⟨_, rfl, rfl, _, rfl, ite2 (fun _ => ?_) (fun _ => I1.up (by omega))⟩, fun σ'' G'' I'' => ?_⟩
    · obtain ⟨q, ys, e0, B, ss, eq, nq, ly, oy⟩ := I1
      cases e0
      refine ⟨.ref b, rfl, rfl, fun K1 p1 s1 z1 g1 => ?_⟩
      have B1 := B.same s1
      refine ⟨b, l, .ref p1, fun v => Okv K K1 b 1 v, rfl, B1, .lst (B.ne z1) (SqL.of g1) (by decide) (by decide) ?_, fun K2 u s2 B2 ou => ?_⟩
      · intro v m
        have h := List.all_eq_true.mp okW_words v m
        cases v with
        | str z => exact .lit h
        | _ => cases h
      replace ou := ou.stp s2
      have eq2 := s2 _ _ nq (s1 _ _ eq)
      refine ⟨(by show 1 ≤ sizeLine; decide), fun c1 f1 => ?_⟩
      have s3 : Same K2 (upd K2 c1 (.lst [u])) := Same.new f1
      have g3 : (upd K2 c1 (.lst [u])) c1 = some (.lst [u]) := upd_same
      generalize upd K2 c1 (.lst [u]) = K3 at s3 g3 ⊢
      have B3 := B2.same s3
      refine ⟨.ref q', rfl, 1, rfl, q', ys, rfl, SqL.of (s3 _ _ eq2), fun c2 f2 => ?_⟩
      have s4 : Same K3 (upd K3 c2 (.lst (cutV ys (some 1) none))) := Same.new f2
      have g4 : (upd K3 c2 (.lst (cutV ys (some 1) none))) c2 = some (.lst (cutV ys (some 1) none)) := upd_same
      generalize upd K3 c2 (.lst (cutV ys (some 1) none)) = K4 at s4 g4 ⊢
      have B4 := B3.same s4
      have u2 := cutV_length ys (some 1) none
      refine ⟨c1, c2, _, _, rfl, rfl, s4 _ _ g3, g4, Nat.le_trans (show _ ≤ 36 by rw [List.length_singleton]; omega) (by decide), fun c3 f3 => ?_⟩
      have m3 := B4.ne f3
      have sa : Stp b K2 (upd K4 c3 (.lst ([u] ++ cutV ys (some 1) none))) := Same.stp ((s3.trans s4).trans (Same.new f3))
      have sz : Stp b G' (upd K4 c3 (.lst ([u] ++ cutV ys (some 1) none))) := ((Same.stp s1).trans s2).trans sa
      refine ⟨c3, _, rfl, B4.new f3, ss.trans sz, upd_same, m3, ?_, mema (mem1 (ou.stp sa)) (fun y m => (oy y (mem_cut m)).stp sz)⟩
      rw [List.length_append, List.length_singleton]
      omega
    clear I1
    obtain ⟨q2, ys2, e2, B2, ss2, eq2, nq2, ly2, oy2⟩ := I''
    cases e2
    refine ⟨.ref q2, rfl, q2, ys2, rfl, .inl ⟨SqL.of eq2, fun p hp => ?_⟩⟩
    have sp' := Same.new (o := .tup ys2) hp
    exact k _ p ys2 (tt.trans (ss2.trans (Same.stp sp'))) (B2.new hp) upd_same (B2.ne hp) (by omega) (fun y m => (oy2 y m).stp (Same.stp sp'))
end

/-- the law's own way to the name -/
def kn (ts : List Str) (xs : List V) : List V := xs.tail.filter fun x => inV x (ts.map V.str) && inV (hd0 xs) nameL
theorem flats (ts : List Str) : (ts.map V.str).all flatV = true := by
  induction ts with
  | nil => rfl
  | cons z ts ih => exact ih
theorem inV_str {z : Str} {ts : List Str} : inV (.str z) (ts.map V.str) = true ↔ z ∈ ts := by
  induction ts with
  | nil => simp [inV]
  | cons y ts ih =>
    show ((y == z) || inV (.str z) (ts.map V.str)) = true ↔ _
    rw [Bool.or_eq_true, beq_iff_eq, ih, List.mem_cons, eq_comm]
theorem reg_no {r : V} {ts : List Str} (hz : ∀ z ∈ ts, Nm z) (h : r ∈ regs) : inV r (ts.map V.str) = false := by
  obtain ⟨z, rfl, _⟩ := reg_str h
  rw [← Bool.not_eq_true, inV_str]
  intro m
  have n := nmV_of (hz z m)
  have all : ∀ r ∈ regs, nmV r = false := by decide +kernel
  rw [all _ h] at n
  cases n
theorem int_no {i : Int} {ts : List Str} : inV (.int i) (ts.map V.str) = false := by
  induction ts with
  | nil => rfl
  | cons y ts ih => exact ih
theorem kn_eq {ts : List Str} {xs : List V} (hz : ∀ z ∈ ts, Nm z) (h : Rwy ts xs) : kn ts xs = if inV (hd0 xs) nameL then [lastV xs] else [] := by
  have T : ∀ {t : Str}, t ∈ ts → inV (.str t) (ts.map V.str) = true := fun m => inV_str.mpr m
  have R : ∀ {r : V}, r ∈ regs → inV r (ts.map V.str) = false := fun m => reg_no hz m
  have F : ∀ {xs : List V}, inV (hd0 xs) nameL = false → kn ts xs = if inV (hd0 xs) nameL then [lastV xs] else [] := fun {xs} e => by
    unfold kn
    rw [e, if_neg Bool.false_ne_true, List.filter_eq_nil_iff]
    intro x _
    simp
  have G1 : ∀ {u t : Str}, inV (hd0 [.str u, .str t]) nameL = true → t ∈ ts → kn ts [.str u, .str t] = if inV (hd0 [.str u, .str t]) nameL then [lastV [.str u, .str t]] else [] := fun {u t} e m => by
    unfold kn
    rw [e, if_pos rfl]
    simp [T m, lastV, atI, ixN]
  have G2 : ∀ {u t : Str} {r : V}, inV (hd0 [.str u, r, .str t]) nameL = true → r ∈ regs → t ∈ ts → kn ts [.str u, r, .str t] = if inV (hd0 [.str u, r, .str t]) nameL then [lastV [.str u, r, .str t]] else [] := fun {u t r} e hr m => by
    unfold kn
    rw [e, if_pos rfl]
    simp [T m, R hr, lastV, atI, ixN]
  rcases h with h | h
  · cases h with
    | put => exact F rfl
    | name hr ht => exact G2 rfl hr ht
    | ifzero hr ht => exact G2 rfl hr ht
    | add => exact F rfl
    | take => exact F rfl
    | load => exact F rfl
    | store => exact F rfl
    | jump ht => exact G1 rfl ht
    | call ht => exact G1 rfl ht
    | callby => exact F rfl
    | out => exact F rfl
    | back => exact F rfl
    | halt => exact F rfl
    | room => exact F rfl
  · cases h with
    | word => exact F rfl
    | address ht => exact G1 rfl ht
    | room => exact F rfl
theorem shaped_one {z : Str} (h : Nm z) : SeqAt.shaped (.list [.str z]) = true := by
  have h1 := h.strK
  have h2 := h.2.1
  have q : ∀ c ∈ z.cps.toList, c < 1114112 := h1.2
  simp [SeqAt.shaped, PyData.canLay0, PyData.canLayAll0, PyData.depth, PyData.depthAll, PyData.strOk]
  intro i x
  exact q _ (by simp)
theorem Rwy.nam {ts : List Str} {xs : List V} (hz : ∀ z ∈ ts, Nm z) (h : Rwy ts xs) (e : inV (hd0 xs) nameL = true) : ∃ z, lastV xs = .str z ∧ Nm z := by
  rcases h with h | h
  · cases h with
    | put => cases e
    | name hr ht => exact ⟨_, rfl, hz _ ht⟩
    | ifzero hr ht => exact ⟨_, rfl, hz _ ht⟩
    | add => cases e
    | take => cases e
    | load => cases e
    | store => cases e
    | jump ht => exact ⟨_, rfl, hz _ ht⟩
    | call ht => exact ⟨_, rfl, hz _ ht⟩
    | callby => cases e
    | out => cases e
    | back => cases e
    | halt => cases e
    | room => cases e
  · cases h with
    | word => cases e
    | address ht => exact ⟨_, rfl, hz _ ht⟩
    | room => cases e
theorem Okv.up {K : PySem.W.Frag} {H : Hp} {b : Addr} : ∀ {n : Nat} {v : V}, Okv K H b n v → Okv K H b (n + 1) v
  | 0, _, h => .inl h
  | n + 1, _, .inl h => .inl h
  | n + 1, _, .inr ⟨a, xs, e, ne, h, hl, hx⟩ => .inr ⟨a, xs, e, ne, h, hl, fun x m => (hx x m).up⟩
theorem Rwy.flat {ts : List Str} {xs : List V} (h : Rwy ts xs) : ∀ x ∈ xs, flatV x = true := by
  have R : ∀ {r : V}, r ∈ regs → flatV r = true := fun m => by
    obtain ⟨z, rfl, _⟩ := reg_str m
    rfl
  rcases h with h | h
  · cases h with
    | put hr => exact memc rfl (memc (R hr) (mem1 rfl))
    | name hr => exact memc rfl (memc (R hr) (mem1 rfl))
    | ifzero hr => exact memc rfl (memc (R hr) (mem1 rfl))
    | add hr hs => exact memc rfl (memc (R hr) (mem1 (R hs)))
    | take hr hs => exact memc rfl (memc (R hr) (mem1 (R hs)))
    | load hr hs => exact memc rfl (memc (R hr) (memc (R hs) (mem1 rfl)))
    | store hr hs => exact memc rfl (memc (R hr) (memc (R hs) (mem1 rfl)))
    | jump => exact memc rfl (mem1 rfl)
    | call => exact memc rfl (mem1 rfl)
    | callby hr => exact memc rfl (mem1 (R hr))
    | out hr => exact memc rfl (mem1 (R hr))
    | back => exact mem1 rfl
    | halt => exact mem1 rfl
    | room => exact memc rfl (mem1 rfl)
  · cases h with
    | word => exact memc rfl (mem1 rfl)
    | address => exact memc rfl (mem1 rfl)
    | room => exact memc rfl (mem1 rfl)
theorem namV_flat {ts : List Str} {xs : List V} (h : Rwy ts xs) : flatV (namV xs) = true := by
  unfold namV
  cases inV (hd0 xs) nameL with
  | false => rfl
  | true =>
    have l1 : 1 ≤ xs.length := by
      rcases h with h | h
      · cases h <;> simp
      · cases h <;> simp
    obtain ⟨j, _, e, _⟩ := atI_get (last_at l1)
    exact h.flat _ (List.mem_of_getElem? e)
section
variable {P : Program} {w : World} {K : PySem.W.Frag} {mg : Str → Option Value} {base : Heap} {Z : Fs}
def sp_law (K : PySem.W.Frag) : Sp := fun vs H Q _ => ∃ (a : Addr) (ns : List Int), vs = [.ref a] ∧ SqL K H a (ns.map V.int) ∧ ns.length ≤ 63 ∧ ∀ H', Q (.bl true) H'
def Outer (b l a t : Addr) (zs : List Str) : L2.St → Hp → Prop := fun σ H => ∃ (y3 y4 y5 y6 y7 y8 y9 y10 y11 : Option V), σ = [some (.ref a), some (.ref b), some (.ref t), y3, y4, y5, y6, y7, y8, y9, y10, y11] ∧ Bag H b l ∧ Tls H b t zs
def MidA (b l a t : Addr) (zs : List Str) (i : Int) : L2.St → Hp → Prop := fun σ H => ∃ (y5 y6 y7 y8 y9 y10 y11 : Option V) (p : Addr) (xs : List V), σ = [some (.ref a), some (.ref b), some (.ref t), some (.int i), some (.ref p), y5, y6, y7, y8, y9, y10, y11] ∧ Bag H b l ∧ Tls H b t zs ∧ H p = some (.tup xs) ∧ p ≠ b ∧ Rwy zs xs
def MidB (K : PySem.W.Frag) (b l a t : Addr) (zs : List Str) (i : Int) : L2.St → Hp → Prop := fun σ H => ∃ (y6 y7 y8 y9 y10 y11 : Option V) (x4 x5 : V), σ = [some (.ref a), some (.ref b), some (.ref t), some (.int i), some x4, some x5, y6, y7, y8, y9, y10, y11] ∧ Bag H b l ∧ Tls H b t zs ∧ Okv K H b 3 x4 ∧ Okv K H b 3 x5
def MidC (a b t : Addr) (i : Int) (p pb : Addr) (c : Bool) (x : V) (H0 : Hp) : L2.St → Hp → Prop := fun σ H => ∃ (y7 y8 y10 y11 : Option V), σ = [some (.ref a), some (.ref b), some (.ref t), some (.int i), some (.ref p), some (.ref pb), some (.bl c), y7, y8, some x, y10, y11] ∧ Same H0 H
theorem ok_law (T : Txt K w mg Z) : FnOk P w K mg base CX0 6 Z.a_law Z.d_law ["_law_script"] (sp_law K) := by
  have G_law_bag : FnOk P w K mg base CX0 1 Z.a_law_bag Z.d_law_bag ["_law_script"] (sp_law_bag K) := ok_law_bag T
  have G_law_titles : FnOk P w K mg base CX0 3 Z.a_law_titles Z.d_law_titles ["_law_bag_here", "_law_many"] (sp_law_titles K) := ok_law_titles T
  have G_law_of : FnOk P w K mg base CX0 2 Z.a_law_of Z.d_law_of ["_law_bag_here", "_law_things"] (sp_law_of K) := ok_law_of T
  have G_law_odd : FnOk P w K mg base CX0 3 Z.a_law_odd Z.d_law_odd ["_law_bag_here", "_law_more"] (sp_law_odd K) := ok_law_odd T
  have G_law_same : FnOk P w K mg base CX0 2 Z.a_law_same Z.d_law_same ["_law_found", "_law_due"] (sp_law_same K 1) := ok_law_same T 1
  have G_law_code_row : FnOk P w K mg base CX0 4 Z.a_law_code_row Z.d_law_code_row ["_law_bag_here", "_law_titles_here"] sp_law_code_row := ok_law_code_row T
  have G_law_data_row : FnOk P w K mg base CX0 4 Z.a_law_data_row Z.d_law_data_row ["_law_bag_here", "_law_titles_here"] sp_law_data_row := ok_law_data_row T
  have G_law_last_row : FnOk P w K mg base CX0 3 Z.a_law_last_row Z.d_law_last_row ["_law_bag_here", "_law_titles_here"] sp_law_last_row := ok_law_last_row T
  have G_law_bent_row : FnOk P w K mg base CX0 3 Z.a_law_bent_row Z.d_law_bent_row ["_law_bag_here", "_law_one", "_law_titles_here"] (sp_law_bent_row K) := ok_law_bent_row T
  have G_law_bounds : FnOk P w K mg base CX0 1 Z.a_law_bounds Z.d_law_bounds [] (sp_law_bounds K) := ok_law_bounds T
  have G_law_code_so : FnOk P w K mg base CX0 2 Z.a_law_code_so Z.d_law_code_so ["_law_thing"] (sp_is_code_row K) := ok_law_code_so T
  have G_law_data_so : FnOk P w K mg base CX0 2 Z.a_law_data_so Z.d_law_data_so ["_law_thing"] (sp_is_data_row K) := ok_law_data_so T
  have G_is_code_row : FnOk P w K mg base CX0 4 Z.a_is_code_row Z.d_is_code_row ["value"] (sp_is_code_row K) := ok_is_code_row T
  have G_is_data_row : FnOk P w K mg base CX0 4 Z.a_is_data_row Z.d_is_data_row ["value"] (sp_is_data_row K) := ok_is_data_row T
  have G_is_closing : FnOk P w K mg base CX0 5 Z.a_is_closing Z.d_is_closing ["row"] (sp_is_closing K) := ok_is_closing T
  have G_name_in : FnOk P w K mg base CX0 5 Z.a_name_in Z.d_name_in ["row"] (sp_name_in K) := ok_name_in T
  refine T.F_law.ok sc_law (fun vs H Q E h => ?_) (fun cdv A outer s H vs Q E hr h => ?_)
  · obtain ⟨a, ns, rfl, _⟩ := h
    rfl
  · obtain ⟨a, ns, rfl, hS, hlen, k⟩ := h
    refine ⟨_, (pss_cons (ps_set (i := 1) sc_law.nd rfl (Or.inl rfl) (pe_call G_law_bag (hr.mono (by omega)) (by rfl) T.m_law_bag T.F_law_bag.kp T.b_law_bag .nil pass0 (pa_cons (pv 0) pa_nil)))
      (pss_cons (ps_set (i := 2) sc_law.nd rfl (Or.inr rfl) (pe_call G_law_titles (hr.mono (by omega)) (by rfl) T.m_law_titles T.F_law_titles.kp T.b_law_titles .nil pass0 (pa_cons (pv 1) (pa_cons pe_int pa_nil))))
      (pss_cons (ps_for PassesOwn.never rfl (pi_range1 (by rfl) T.n_range (pa_cons pe_int pa_nil)) (pg_name (i := 3) sc_law.nd rfl (Or.inl rfl)) (C8.pss_cut (ps_if (pt_cmpR op_lt (pv 3) pe_int (nomark _)) (C8.pss_cut (ps_set (i := 4) sc_law.nd rfl (Or.inr rfl) (pe_ifExp (pt_cmpR op_lt (pv 3) pe_int (nomark _)) (pe_call G_law_code_row (hr.mono (by omega)) (by rfl) T.m_law_code_row T.F_law_code_row.kp T.b_law_code_row .nil pass0 (pa_cons (pv 1) (pa_cons (pv 2) pa_nil))) (pe_ifExp (pt_cmpR op_eq (pv 3) pe_int (nomark _)) (pe_call G_law_last_row (hr.mono (by omega)) (by rfl) T.m_law_last_row T.F_law_last_row.kp T.b_law_last_row .nil pass0 (pa_cons (pv 1) (pa_cons (pv 2) pa_nil))) (pe_call G_law_data_row (hr.mono (by omega)) (by rfl) T.m_law_data_row T.F_law_data_row.kp T.b_law_data_row .nil pass0 (pa_cons (pv 1) (pa_cons (pv 2) pa_nil))))))
      (pss_cons (ps_set (i := 5) sc_law.nd rfl (Or.inl rfl) (pe_call G_law_bent_row (hr.mono (by omega)) (by rfl) T.m_law_bent_row T.F_law_bent_row.kp T.b_law_bent_row .nil pass0 (pa_cons (pv 1) (pa_cons (pv 4) (pa_cons (pv 2) pa_nil)))))
      (pss_cons (ps_set (i := 6) sc_law.nd rfl (Or.inl rfl) (pe_cmpR (op_in_seq : OpR _ _ (rIn K false)) (pe_ix (ix_tup : IxR _ (rIxT K)) (pv 4) pe_int (fun _ _ => rfl)) (pe_lst (pa_cons pe_str (pa_cons pe_str (pa_cons pe_str pa_nil)))) (by rfl)))
      (pss_cons (ps_setLc (i := 7) (own := [("_law_item", 8)]) (g := gName 8) rfl sc_law.nd rfl rfl (sw_true rfl rfl rfl (by decide +kernel)) (pi_tup (pe_slice sl_tup (pv 4) (po_some pe_int) po_none)) (blkOk_by (N := N_law) (sc := defScope s_law) (by decide +kernel)) (fun _ _ _ _ _ => pg_name (i := 8) sc_law.nd rfl (Or.inl rfl)) (fun _ _ _ _ _ => pts_one (PW.pt (pw_and (pt_cmpR (op_in_seq : OpR _ _ (rIn K false)) (pv 8) (pv 2) (by rfl)) (pw_and1 (pt_cmpR (op_in_seq : OpR _ _ (rIn K false)) (pe_ix (ix_tup : IxR _ (rIxT K)) (pv 4) pe_int (fun _ _ => rfl)) (pe_lst (pa_cons pe_str (pa_cons pe_str (pa_cons pe_str (pa_cons pe_str (pa_cons pe_str pa_nil)))))) (by rfl)))))) (fun _ _ _ _ _ => (pv 8)))
      (C8.pss_cut (ps_set (i := 9) sc_law.nd rfl (Or.inl rfl) (pe_ifExp (pt_cmpR (op_neD hr.units) (pv 7) (pe_lst pa_nil) (nomark _)) (pe_ix ix_list (pv 7) (pe_un un_neg pe_int) (fun _ _ => rfl)) pe_non))
      (pss_one (ps_if (pt_not (pt_val (pe_call G_law_same (hr.mono (by omega)) (by rfl) T.m_law_same T.F_law_same.kp T.b_law_same .nil pass0 (pa_cons (pe_lst (pa_cons (pe_call G_is_closing (hr.mono (by omega)) (by rfl) T.m_is_closing T.F_is_closing.kp T.b_is_closing .nil pass0 (pa_cons (pv 4) pa_nil)) (pa_cons (pe_callN0 G_is_closing (hr.mono (by omega)) (by rfl) T.m_is_closing T.F_is_closing.kp T.k_is_closing_0_row pass0 (pk_cons (pv 4) pk_nil)) (pa_cons (pe_call G_name_in (hr.mono (by omega)) (by rfl) T.m_name_in T.F_name_in.kp T.b_name_in .nil pass0 (pa_cons (pv 4) pa_nil)) (pa_cons (pe_callN0 G_name_in (hr.mono (by omega)) (by rfl) T.m_name_in T.F_name_in.kp T.k_name_in_0_row pass0 (pk_cons (pv 4) pk_nil)) pa_nil))))) (pa_cons (pe_lst (pa_cons (pv 6) (pa_cons (pv 6) (pa_cons (pv 9) (pa_cons (pv 9) pa_nil))))) pa_nil))))) (pss_one (ps_ret pe_bl)) pss_nil))))))) (pss_one (ps_asg (pe_tup (pa_cons (pe_call G_law_of (hr.mono (by omega)) (by rfl) T.m_law_of T.F_law_of.kp T.b_law_of .nil pass0 (pa_cons (pv 1) (pa_cons (pe_call0 G_law_bounds (hr.mono (by omega)) (by rfl) T.m_law_bounds T.F_law_bounds.kp T.b_law_bounds .nil pass0 ) pa_nil))) (pa_cons (pe_call G_law_odd (hr.mono (by omega)) (by rfl) T.m_law_odd T.F_law_odd.kp T.b_law_odd .nil pass0 (pa_cons (pv 1) (pa_cons (pe_lst (pa_cons (pe_tup (pa_cons pe_str pa_nil)) (pa_cons (pe_tup (pa_cons pe_int (pa_cons pe_int pa_nil))) (pa_cons (pe_tup (pa_cons pe_str pa_nil)) (pa_cons (pe_lst (pa_cons (pe_tup (pa_cons pe_str pa_nil)) pa_nil)) pa_nil))))) pa_nil))) pa_nil))) (pg_tup (by rfl) (pgs_cons (pg_name (i := 4) sc_law.nd rfl (Or.inr rfl)) (pgs_cons (pg_name (i := 5) sc_law.nd rfl (Or.inl rfl)) pgs_nil))))))
      (pss_one (ps_for PassesOwn.never rfl (pi_list (pe_lst (pa_cons (pv 4) (pa_cons (pv 5) (pa_cons (pe_ifExp (pt_val (pe_callB call_isi (by rfl) T.n_isinstance boot_isinstance (pa_cons (pv 5) (pa_cons (pe_bltn (v := .ty "tuple") (by rfl) T.n_tuple boot_tuple rfl) pa_nil)))) (pe_callTy call_list_of (by rfl) T.n_list boot_list (pa_cons (pv 5) pa_nil)) (pv 5)) pa_nil))))) (pg_name (i := 10) sc_law.nd rfl (Or.inl rfl)) (pss_cons (ps_set (i := 11) sc_law.nd rfl (Or.inl rfl) (pe_lst (pa_cons (pe_call G_law_code_so (hr.mono (by omega)) (by rfl) T.m_law_code_so T.F_law_code_so.kp T.b_law_code_so .nil pass0 (pa_cons (pv 10) pa_nil)) (pa_cons (pe_call G_law_data_so (hr.mono (by omega)) (by rfl) T.m_law_data_so T.F_law_data_so.kp T.b_law_data_so .nil pass0 (pa_cons (pv 10) pa_nil)) pa_nil))))
      (pss_one (ps_if (pt_not (pt_val (pe_call G_law_same (hr.mono (by omega)) (by rfl) T.m_law_same T.F_law_same.kp T.b_law_same .nil pass0 (pa_cons (pe_lst (pa_cons (pe_call G_is_code_row (hr.mono (by omega)) (by rfl) T.m_is_code_row T.F_is_code_row.kp T.b_is_code_row .nil pass0 (pa_cons (pv 10) pa_nil)) (pa_cons (pe_call G_is_data_row (hr.mono (by omega)) (by rfl) T.m_is_data_row T.F_is_data_row.kp T.b_is_data_row .nil pass0 (pa_cons (pv 10) pa_nil)) (pa_cons (pe_callN0 G_is_code_row (hr.mono (by omega)) (by rfl) T.m_is_code_row T.F_is_code_row.kp T.k_is_code_row_0_value pass0 (pk_cons (pv 10) pk_nil)) (pa_cons (pe_callN0 G_is_data_row (hr.mono (by omega)) (by rfl) T.m_is_data_row T.F_is_data_row.kp T.k_is_data_row_0_value pass0 (pk_cons (pv 10) pk_nil)) pa_nil))))) (pa_cons (pe_op op_cat (pv 11) (pv 11)) pa_nil))))) (pss_one (ps_ret pe_bl)) pss_nil)))))))
      (pss_cons (ps_for PassesOwn.never rfl (pi_list (pe_call0 G_law_bounds (hr.mono (by omega)) (by rfl) T.m_law_bounds T.F_law_bounds.kp T.b_law_bounds .nil pass0 )) (pg_name (i := 10) sc_law.nd rfl (Or.inl rfl)) (pss_one (ps_if (pt_not (pt_val (pe_call G_law_same (hr.mono (by omega)) (by rfl) T.m_law_same T.F_law_same.kp T.b_law_same .nil pass0 (pa_cons (pe_lst (pa_cons (pe_call G_is_code_row (hr.mono (by omega)) (by rfl) T.m_is_code_row T.F_is_code_row.kp T.b_is_code_row .nil pass0 (pa_cons (pv 10) pa_nil)) (pa_cons (pe_call G_is_data_row (hr.mono (by omega)) (by rfl) T.m_is_data_row T.F_is_data_row.kp T.b_is_data_row .nil pass0 (pa_cons (pv 10) pa_nil)) pa_nil))) (pa_cons (pe_lst (pa_cons (pe_call G_law_code_so (hr.mono (by omega)) (by rfl) T.m_law_code_so T.F_law_code_so.kp T.b_law_code_so .nil pass0 (pa_cons (pv 10) pa_nil)) (pa_cons (pe_call G_law_data_so (hr.mono (by omega)) (by rfl) T.m_law_data_so T.F_law_data_so.kp T.b_law_data_so .nil pass0 (pa_cons (pv 10) pa_nil)) pa_nil))) pa_nil))))) (pss_one (ps_ret pe_bl)) pss_nil)))
      (pss_one (ps_ret pe_bl)))))), ?_⟩
    refine ⟨.ref a, rfl, a, ns, rfl, hS, hlen, fun H0 b l s0 hb0 _ B0 => ?_⟩
    refine ⟨.ref b, rfl, b, l, rfl, B0, fun H1 t zs s1 B1 ht0 nt _ et lz hz => ?_⟩
    have TT1 : Tls H1 b t zs := ⟨et, nt, by omega, by omega⟩
    refine ⟨12, rfl, by decide, by decide, for_range (lo := 0) (n := 12) (fun i σ H' => Outer b l a t zs σ H') ⟨_, _, _, _, _, _, _, _, _, rfl, B1, TT1⟩ ?_ ?_⟩
    · rintro i σ G hi ⟨y3, y4, y5, y6, y7, y8, y9, y10, y11, rfl, B, TT⟩
      refine ⟨MidB K b l a t zs (0 + (i : Int)), ⟨_, rfl, _, _, rfl, rfl, _, rfl, ite2 (fun c8 => ?_) (fun c8 => ?_)⟩, ?_⟩
      · -- a drawn row
        refine ⟨MidA b l a t zs (0 + (i : Int)), ⟨_, rfl, _, _, rfl, rfl, _, rfl, ite2 (fun c4 => ?_) (fun c4 => ?_)⟩, ?_⟩
        · refine ⟨.ref b, rfl, .ref t, rfl, b, l, t, zs, rfl, B, TT, fun G1 p xs s B1 ep np hx => ?_⟩
          exact ⟨_, _, _, _, _, _, _, p, xs, rfl, B1, TT.stp s, ep, np, .inl hx⟩
        · refine ⟨_, rfl, rfl, _, rfl, ite2 (fun c5 => ?_) (fun c5 => ?_)⟩
          · refine ⟨.ref b, rfl, .ref t, rfl, b, l, t, zs, rfl, B, TT, fun G1 p xs s B1 ep np hx => ?_⟩
            exact ⟨_, _, _, _, _, _, _, p, xs, rfl, B1, TT.stp s, ep, np, .inl hx⟩
          · refine ⟨.ref b, rfl, .ref t, rfl, b, l, t, zs, rfl, B, TT, fun G1 p xs s B1 ep np hx => ?_⟩
            exact ⟨_, _, _, _, _, _, _, p, xs, rfl, B1, TT.stp s, ep, np, .inr hx⟩
        · rintro σ G ⟨y5, y6, y7, y8, y9, y10, y11, p, xs, rfl, B, TT, ep, np, hx⟩
          obtain ⟨okx, l1, l4⟩ := hx.ok (K := K) (H := G) (b := b) hz
          have hd := hx.hd
          refine ⟨.ref b, rfl, .ref p, rfl, .ref t, rfl, b, l, p, t, xs, zs, rfl, B, ep, l1, l4, okx 1, TT, hz, fun G1 pb ys s1 B1 eb nb ly oy => ?_⟩
          replace ep := s1 _ _ np ep
          replace TT := TT.stp s1
          -- closing
          refine ⟨.ref p, rfl, p, xs, 0, hd0 xs, rfl, rfl, SqT.of ep, hd, (by show 3 ≤ sizeLine; decide), fun p3 h3 => ?_⟩
          have s2 : Same G1 (upd G1 p3 (.lst [V.str "jump", V.str "halt", V.str "back"])) := Same.new h3
          have e3 : (upd G1 p3 (.lst [V.str "jump", V.str "halt", V.str "back"])) p3 = some (.lst [V.str "jump", V.str "halt", V.str "back"]) := upd_same
          generalize upd G1 p3 (.lst [V.str "jump", V.str "halt", V.str "back"]) = G2 at s2 e3 ⊢
          have B2 := B1.same s2
          replace ep := s2 _ _ ep
          refine ⟨p3, closL, rfl, .inl (SqL.of e3), hx.str, rfl, ?_⟩
          obtain ⟨u, r, rfl⟩ : ∃ u r, xs = u :: r := by
            cases xs with
            | nil => exact absurd l1 (by decide)
            | cons u r => exact ⟨u, r, rfl⟩
          -- known
          refine ⟨.ref p, rfl, 1, rfl, p, _, rfl, SqT.of ep, ?_, fun pc hc => ?_⟩
          · rintro ⟨z, _⟩
            rw [show HT.sIx (u :: r).length 0 (some 1) = min 1 (u :: r).length from HT.sIx_nat _ 0 1, List.length_cons] at z
            omega
          rw [cut_tl]
          have s3 : Same G2 (upd G2 pc (.tup r)) := Same.new hc
          have ec : (upd G2 pc (.tup r)) pc = some (.tup r) := upd_same
          generalize upd G2 pc (.tup r) = G3 at s3 ec ⊢
          have B3 := B2.same s3
          replace ep := s3 _ _ ep
          have TT3 := (TT.stp (Same.stp s2)).stp (Same.stp s3)
          refine ⟨pc, rfl, ⟨_, SqT.of ec⟩, fun D hD => ?_⟩
          refine lc_it (walk_tup (K := K) (xs := r)) (fun i H' => Same G3 H' ∧ H' D = some (.lst ((r.take i).filter (fun x => inV x (zs.map V.str) && inV u nameL)))) ⟨Same.new hD, upd_same⟩ (fun i H' _ q => SqT.of (q.1 _ _ ec)) ?_ ?_
          · rintro i' v K1 K2 hi' ⟨t1, e1⟩ ⟨rfl, hv⟩
            refine ⟨rfl, v, rfl, .ref t, rfl, t, _, rfl, .inl (SqL.of (t1 _ _ TT3.1)), hx.flat _ (List.mem_cons_of_mem _ (List.mem_of_getElem? hv)), flats zs, ?_⟩
            refine ⟨_, rfl, ?_⟩
            have tk : r.take (i' + 1) = r.take i' ++ [v] := by rw [List.take_add_one, hv]; rfl
            have lf : ((r.take i').filter (fun x => inV x (zs.map V.str) && inV u nameL)).length < sizeLine := by
              have q1 := List.length_filter_le (fun x => inV x (zs.map V.str) && inV u nameL) (r.take i')
              rw [List.length_take] at q1
              rw [List.length_cons] at l4
              exact Nat.lt_of_le_of_lt (show _ ≤ 4 by omega) (by decide)
            cases hq : inV v (zs.map V.str) with
            | false =>
              refine iteF ⟨t1, ?_⟩
              rw [e1, tk, List.filter_append]
              simp [hq]
            | true =>
              refine iteT ⟨.ref p, rfl, p, _, 0, u, rfl, rfl, SqT.of (t1 _ _ ep), atI_nat (j := 0) rfl, (by show 5 ≤ sizeLine; decide), fun p5 h5 => ⟨p5, nameL, rfl, .inl (SqL.of upd_same), hx.str, rfl, _, rfl, ?_⟩⟩
              show if inV u nameL = true then _ else _
              have t5 := t1.trans (Same.new (o := .lst [V.str "name", V.str "jump", V.str "ifzero", V.str "call", V.str "address"]) h5)
              have e5 := Same.new (o := .lst [V.str "name", V.str "jump", V.str "ifzero", V.str "call", V.str "address"]) h5 _ _ e1
              cases hn : inV u nameL with
              | false =>
                refine iteF ⟨t5, ?_⟩
                rw [hn] at e5
                refine e5.trans ?_
                rw [tk, List.filter_append]
                simp
              | true =>
                refine iteT ⟨v, rfl, _, e5, lf, Same.put t5 hD, ?_⟩
                rw [upd_same, tk, List.filter_append]
                simp [hq, hn]
          · rintro K1 ⟨t1, e1⟩
            rw [List.take_length] at e1
            have ek : K1 D = some (.lst (kn zs (u :: r))) := e1
            rw [kn_eq hz hx] at ek
            replace ep := t1 _ _ ep
            have TT4 := TT3.stp (Same.stp t1)
            have B4 := B3.same t1
            have eb4 := t1 _ _ (s3 _ _ (s2 _ _ eb))
            refine ⟨MidC a b t (0 + (i : Int)) p pb (inV (hd0 (u :: r)) closL) (namV (u :: r)) K1, ?_, ?_⟩
            · cases hn : inV (hd0 (u :: r)) nameL with
              | false =>
                rw [hn, if_neg Bool.false_ne_true] at ek
                refine ⟨.ref D, rfl, Nat.zero_le _, fun pn hn' => ?_⟩
                have sn := Same.new (o := .lst []) hn'
                refine ⟨.list [], .list [], .lst (SqL.of (sn _ _ ek)) .nil, .lst (SqL.of upd_same) .nil, by decide +kernel, rfl, _, rfl, ?_⟩
                rw [eqv_nil]
                refine iteF ?_
                have e : namV (u :: r) = .non := by unfold namV; rw [hn, if_neg Bool.false_ne_true]
                rw [e]
                exact ⟨_, _, _, _, rfl, sn⟩
              | true =>
                rw [hn, if_pos rfl] at ek
                obtain ⟨z, ez, nz⟩ := hx.nam hz hn
                rw [ez] at ek
                refine ⟨.ref D, rfl, Nat.zero_le _, fun pn hn' => ?_⟩
                have sn := Same.new (o := .lst []) hn'
                refine ⟨.list [.str z], .list [], .lst (SqL.of (sn _ _ ek)) (.cons (.str z) .nil), .lst (SqL.of upd_same) .nil, shaped_one nz, rfl, _, rfl, ?_⟩
                rw [eqv_cons]
                refine iteT ⟨.ref D, rfl, 1, rfl, D, _, -1, .str z, rfl, rfl, SqL.of (sn _ _ ek), atI_last [] _, ?_⟩
                have e : namV (u :: r) = .str z := by unfold namV; rw [hn, if_pos rfl, ez]
                rw [e]
                exact ⟨_, _, _, _, rfl, sn⟩
            · rintro σ K2 ⟨y7, y8, y10, y11, rfl, t2⟩
              have fx := namV_flat hx
              have e2 := SqT.of (K := K) (t2 _ _ ep)
              refine ⟨.ref p, rfl, p, _, zs, rfl, e2, hz, hx, fun K3 t3 => ?_⟩
              have e3 := Same.sqT t3 e2
              refine ⟨.ref p, rfl, rfl, rfl, p, _, zs, rfl, e3, hz, hx, fun K4 t4 => ?_⟩
              have e4 := Same.sqT t4 e3
              refine ⟨.ref p, rfl, p, _, zs, rfl, e4, hz, hx, fun K5 t5 => ?_⟩
              have e5 := Same.sqT t5 e4
              refine ⟨.ref p, rfl, rfl, rfl, p, _, zs, rfl, e5, hz, hx, fun K6 t6 => ?_⟩
              refine ⟨(by show 4 ≤ sizeLine; decide), fun q1 h1 => ?_⟩
              have t7 : Same K6 (upd K6 q1 (.lst [V.bl (inV (hd0 (u :: r)) closL), V.bl (inV (hd0 (u :: r)) closL), namV (u :: r), namV (u :: r)])) := Same.new h1
              have f1 : (upd K6 q1 (.lst [V.bl (inV (hd0 (u :: r)) closL), V.bl (inV (hd0 (u :: r)) closL), namV (u :: r), namV (u :: r)])) q1 = some (.lst [V.bl (inV (hd0 (u :: r)) closL), V.bl (inV (hd0 (u :: r)) closL), namV (u :: r), namV (u :: r)]) := upd_same
              generalize upd K6 q1 (.lst [V.bl (inV (hd0 (u :: r)) closL), V.bl (inV (hd0 (u :: r)) closL), namV (u :: r), namV (u :: r)]) = K7 at t7 f1 ⊢
              refine ⟨_, rfl, _, rfl, _, rfl, _, rfl, (by show 4 ≤ sizeLine; decide), fun q2 h2 => ?_⟩
              have t8 : Same K7 (upd K7 q2 (.lst [V.bl (inV (hd0 (u :: r)) closL), V.bl (inV (hd0 (u :: r)) closL), namV (u :: r), namV (u :: r)])) := Same.new h2
              have f2 : (upd K7 q2 (.lst [V.bl (inV (hd0 (u :: r)) closL), V.bl (inV (hd0 (u :: r)) closL), namV (u :: r), namV (u :: r)])) q2 = some (.lst [V.bl (inV (hd0 (u :: r)) closL), V.bl (inV (hd0 (u :: r)) closL), namV (u :: r), namV (u :: r)]) := upd_same
              generalize upd K7 q2 (.lst [V.bl (inV (hd0 (u :: r)) closL), V.bl (inV (hd0 (u :: r)) closL), namV (u :: r), namV (u :: r)]) = K8 at t8 f2 ⊢
              refine ⟨.ref q1, .ref q2, rfl, .lists (SqL.of (t8 _ _ f1)) (SqL.of f2) (by show 4 ≤ 100000; decide) (memc (.flat rfl) (memc (.flat rfl) (memc (.flat fx) (mem1 (.flat fx))))), fun K9 t9 => ⟨true, rfl, iteF ?_⟩⟩
              have tt : Same K1 K9 := ((((((t2.trans t3).trans t4).trans t5).trans t6).trans t7).trans t8).trans t9
              have oh : ∀ n, ∀ x ∈ (u :: r), Okv K K9 b n x := fun n => (hx.ok (K := K) (H := K9) (b := b) hz).1 n
              exact ⟨_, _, _, _, _, _, .ref p, .ref pb, rfl, B4.same tt, TT4.stp (Same.stp tt), .tup0 np (SqT.of (tt _ _ ep)) (Nat.le_trans l4 (by decide)) (oh 2), .tup0 nb (SqT.of (tt _ _ eb4)) (Nat.le_trans ly (by decide)) (fun y m => ((((oy y m).stp (Same.stp (s2.trans s3))).stp (Same.stp t1)).stp (Same.stp tt)).up)⟩
      · -- a row at a bound
        refine ⟨.ref b, rfl, b, l, rfl, B, fun G1 q xs s1 B1 eq nq l0 l1 oq => ⟨b, l, .ref q, fun v => Okv K G1 b 2 v, rfl, B1, .lst nq (SqL.of eq) l0 (Nat.le_trans l1 (by decide)) oq, fun G2 x s2 B2 ox => ?_⟩⟩
        replace ox := (ox.stp s2).up
        have TT2 := (TT.stp (Same.stp s1)).stp s2
        clear s1 s2 eq nq l0 l1 oq B1
        refine ⟨.ref b, rfl, (by show 1 ≤ sizeLine; decide), fun p1 h1 => ?_⟩
        have n1 := B2.ne h1
        have s3 : Same G2 (upd G2 p1 (.tup [V.str "a"])) := Same.new h1
        have e1 : (upd G2 p1 (.tup [V.str "a"])) p1 = some (.tup [V.str "a"]) := upd_same
        generalize upd G2 p1 (.tup [V.str "a"]) = G3 at s3 e1 ⊢
        have B3 := B2.same s3
        refine ⟨(by show 2 ≤ sizeLine; decide), fun p2 h2 => ?_⟩
        have n2 := B3.ne h2
        have s4 : Same G3 (upd G3 p2 (.tup [V.int 1, V.int 2])) := Same.new h2
        have e2 : (upd G3 p2 (.tup [V.int 1, V.int 2])) p2 = some (.tup [V.int 1, V.int 2]) := upd_same
        generalize upd G3 p2 (.tup [V.int 1, V.int 2]) = G4 at s4 e2 ⊢
        have B4 := B3.same s4
        refine ⟨(by show 1 ≤ sizeLine; decide), fun p3 h3 => ?_⟩
        have n3 := B4.ne h3
        have s5 : Same G4 (upd G4 p3 (.tup [V.str "put"])) := Same.new h3
        have e3 : (upd G4 p3 (.tup [V.str "put"])) p3 = some (.tup [V.str "put"]) := upd_same
        generalize upd G4 p3 (.tup [V.str "put"]) = G5 at s5 e3 ⊢
        have B5 := B4.same s5
        refine ⟨(by show 1 ≤ sizeLine; decide), fun p4 h4 => ?_⟩
        have n4 := B5.ne h4
        have s6 : Same G5 (upd G5 p4 (.tup [V.str "halt"])) := Same.new h4
        have e4 : (upd G5 p4 (.tup [V.str "halt"])) p4 = some (.tup [V.str "halt"]) := upd_same
        generalize upd G5 p4 (.tup [V.str "halt"]) = G6 at s6 e4 ⊢
        have B6 := B5.same s6
        refine ⟨(by show 1 ≤ sizeLine; decide), fun p5 h5 => ?_⟩
        have n5 := B6.ne h5
        have s7 : Same G6 (upd G6 p5 (.lst [V.ref p4])) := Same.new h5
        have e5 : (upd G6 p5 (.lst [V.ref p4])) p5 = some (.lst [V.ref p4]) := upd_same
        generalize upd G6 p5 (.lst [V.ref p4]) = G7 at s7 e5 ⊢
        have B7 := B6.same s7
        refine ⟨(by show 4 ≤ sizeLine; decide), fun p6 h6 => ?_⟩
        have n6 := B7.ne h6
        have s8 : Same G7 (upd G7 p6 (.lst [V.ref p1, V.ref p2, V.ref p3, V.ref p5])) := Same.new h6
        have e6 : (upd G7 p6 (.lst [V.ref p1, V.ref p2, V.ref p3, V.ref p5])) p6 = some (.lst [V.ref p1, V.ref p2, V.ref p3, V.ref p5]) := upd_same
        generalize upd G7 p6 (.lst [V.ref p1, V.ref p2, V.ref p3, V.ref p5]) = G8 at s8 e6 ⊢
        have B8 := B7.same s8
        have u6 := s7.trans s8
        have u5 := s6.trans u6
        have u4 := s5.trans u5
        have u3 := s4.trans u4
        refine ⟨b, l, p6, _, rfl, B8, e6, n6, ?_, (by show 4 ≤ 1000; decide), fun G9 v s9 B9 ov => ?_⟩
        · refine memc ?_ (memc ?_ (memc ?_ (mem1 ?_)))
          · exact .tup0 n1 (SqT.of (u3 _ _ e1)) (by decide) (mem1 (.lit (by decide +kernel)))
          · exact .tup0 n2 (SqT.of (u4 _ _ e2)) (by decide) (memc .int (mem1 .int))
          · exact .tup0 n3 (SqT.of (u5 _ _ e3)) (by decide) (mem1 (.lit (by decide +kernel)))
          · exact .lst0 n5 (SqL.of (s8 _ _ e5)) (by show 1 ≤ 100000; decide) (mem1 (.tup0 n4 (SqT.of (u6 _ _ e4)) (by decide) (mem1 (.lit (by decide +kernel)))))
        replace ox := (ox.stp (Same.stp (s3.trans u3))).stp s9
        have TT9 := (TT2.stp (Same.stp (s3.trans u3))).stp s9
        refine ⟨(by show 2 ≤ sizeLine; decide), fun p7 h7 => ?_⟩
        have s10 := Same.new (o := .tup [x, v]) h7
        refine ⟨p7, _, rfl, SqT.of upd_same, rfl, x, [v], rfl, v, [], rfl, rfl, ?_⟩
        exact ⟨_, _, _, _, _, _, x, v, rfl, B9.new h7, TT9.stp (Same.stp s10), ox.stp (Same.stp s10), ov.stp (Same.stp s10)⟩
      · -- three things
        rintro σ G ⟨y6, y7, y8, y9, y10, y11, x4, x5, rfl, B, TT, o4, o5⟩
        obtain ⟨o, tp⟩ := o5.tp
        refine ⟨_, rfl, _, rfl, x5, rfl, ?_⟩
        cases o with
        | none =>
          obtain ⟨ty, h1, h2⟩ := tp
          refine ⟨x5, .ty "tuple", ty, _, _, rfl, .ty _, h1, h2, _, rfl, iteF ⟨_, rfl, ?_⟩⟩
          refine ⟨(by show 3 ≤ sizeLine; decide), fun q h => ?_⟩
          have sA : Same G (upd G q (.lst [x4, x5, x5])) := Same.new h
          have eq : (upd G q (.lst [x4, x5, x5])) q = some (.lst [x4, x5, x5]) := upd_same
          generalize upd G q (.lst [x4, x5, x5]) = GA at sA eq ⊢
          have BA := B.same sA
          have TA := TT.stp (Same.stp sA)
          have oA : ∀ x ∈ [x4, x5, x5], Okv K GA b 3 x := memc (o4.stp (Same.stp sA)) (memc (o5.stp (Same.stp sA)) (mem1 (o5.stp (Same.stp sA))))
          refine ⟨q, rfl, ⟨_, SqL.of eq⟩, for_list (K := K) (a := q) (xs := [x4, x5, x5]) (fun _ σ H' => ∃ (y3 y4 y5 y6 y7 y8 y9 y10 y11 : Option V), σ = [some (.ref a), some (.ref b), some (.ref t), y3, y4, y5, y6, y7, y8, y9, y10, y11] ∧ Same GA H') ⟨_, _, _, _, _, _, _, _, _, rfl, Same.refl _⟩ (fun i σ H' _ ⟨_, _, _, _, _, _, _, _, _, _, s'⟩ => SqL.of (s' _ _ eq)) ?_ ?_⟩
          · rintro j v σ G' hv ⟨y3, y4, y5, y6, y7, y8, y9, y10, y11, rfl, sG⟩
            obtain ⟨o, tp⟩ := ((oA v (List.mem_of_getElem? hv)).stp (Same.stp sG)).tp
            refine ⟨v, rfl, v, b, 2, o, rfl, tp, fun G2 s2 => ?_⟩
            refine ⟨v, rfl, v, b, 2, o, rfl, tp.same s2, fun G3 s3 => ?_⟩
            refine ⟨(by show 2 ≤ sizeLine; decide), fun q1 h1 => ?_⟩
            have s4 : Same G3 (upd G3 q1 (.lst [V.bl (codeO o), V.bl (dataO o)])) := Same.new h1
            have f1 : (upd G3 q1 (.lst [V.bl (codeO o), V.bl (dataO o)])) q1 = some (.lst [V.bl (codeO o), V.bl (dataO o)]) := upd_same
            generalize upd G3 q1 (.lst [V.bl (codeO o), V.bl (dataO o)]) = G4 at s4 f1 ⊢
            have t4 := (s2.trans s3).trans s4
            refine ⟨v, rfl, v, b, 2, o, rfl, tp.same t4, fun G5 s5 => ?_⟩
            have t5 := t4.trans s5
            refine ⟨v, rfl, v, b, 2, o, rfl, tp.same t5, fun G6 s6 => ?_⟩
            have t6 := t5.trans s6
            refine ⟨v, rfl, rfl, rfl, v, b, 2, o, rfl, tp.same t6, fun G7 s7 => ?_⟩
            have t7 := t6.trans s7
            refine ⟨v, rfl, rfl, rfl, v, b, 2, o, rfl, tp.same t7, fun G8 s8 => ?_⟩
            have t8 := t7.trans s8
            refine ⟨(by show 4 ≤ sizeLine; decide), fun q2 h2 => ?_⟩
            have s9 : Same G8 (upd G8 q2 (.lst [V.bl (codeO o), V.bl (dataO o), V.bl (codeO o), V.bl (dataO o)])) := Same.new h2
            have f2 : (upd G8 q2 (.lst [V.bl (codeO o), V.bl (dataO o), V.bl (codeO o), V.bl (dataO o)])) q2 = some (.lst [V.bl (codeO o), V.bl (dataO o), V.bl (codeO o), V.bl (dataO o)]) := upd_same
            generalize upd G8 q2 (.lst [V.bl (codeO o), V.bl (dataO o), V.bl (codeO o), V.bl (dataO o)]) = G9 at s9 f2 ⊢
            have t9 := t8.trans s9
            have f19 := s9 _ _ (s8 _ _ (s7 _ _ (s6 _ _ (s5 _ _ f1))))
            refine ⟨.ref q1, rfl, .ref q1, rfl, q1, q1, _, _, rfl, rfl, f19, f19, (by show 4 ≤ sizeLine; decide), fun q3 h3 => ?_⟩
            have s10 : Same G9 (upd G9 q3 (.lst ([V.bl (codeO o), V.bl (dataO o)] ++ [V.bl (codeO o), V.bl (dataO o)]))) := Same.new h3
            have f3 : (upd G9 q3 (.lst ([V.bl (codeO o), V.bl (dataO o)] ++ [V.bl (codeO o), V.bl (dataO o)]))) q3 = some (.lst [V.bl (codeO o), V.bl (dataO o), V.bl (codeO o), V.bl (dataO o)]) := upd_same
            generalize upd G9 q3 (.lst ([V.bl (codeO o), V.bl (dataO o)] ++ [V.bl (codeO o), V.bl (dataO o)])) = GB at s10 f3 ⊢
            refine ⟨.ref q2, .ref q3, rfl, .lists (SqL.of (s10 _ _ f2)) (SqL.of f3) (by show 4 ≤ 100000; decide) (memc (.flat rfl) (memc (.flat rfl) (memc (.flat rfl) (mem1 (.flat rfl))))), fun GC s11 => ⟨true, rfl, iteF ?_⟩⟩
            exact ⟨_, _, _, _, _, _, _, _, _, rfl, sG.trans ((t9.trans s10).trans s11)⟩
          · rintro σ G' ⟨y3, y4, y5, y6, y7, y8, y9, y10, y11, rfl, sG⟩
            exact ⟨_, _, _, _, _, _, _, _, _, rfl, BA.same sG, TA.stp (Same.stp sG)⟩
        | some ys =>
          obtain ⟨pb, rfl, hy, ly, oy⟩ := tp
          refine ⟨.ref pb, .ty "tuple", _, _, true, rfl, .ty _, tyx_t hy, kit_ty (by decide +kernel), _, rfl, iteT ⟨.ref pb, rfl, pb, ys, rfl, .inr hy, fun p h => ?_⟩⟩
          have n6 := B.ne h
          have s0' : Same G (upd G p (.lst ys)) := Same.new h
          have e6 : (upd G p (.lst ys)) p = some (.lst ys) := upd_same
          generalize upd G p (.lst ys) = G0 at s0' e6 ⊢
          have o6 : Okv K G0 b 3 (.ref p) := .lst0 n6 (SqL.of e6) ly (fun y m => (oy y m).stp (Same.stp s0'))
          have B0' := B.same s0'
          have TT0 := TT.stp (Same.stp s0')
          replace o4 := o4.stp (Same.stp s0')
          replace o5 := o5.stp (Same.stp s0')
          refine ⟨(by show 3 ≤ sizeLine; decide), fun q h => ?_⟩
          have sA : Same G0 (upd G0 q (.lst [x4, V.ref pb, V.ref p])) := Same.new h
          have eq : (upd G0 q (.lst [x4, V.ref pb, V.ref p])) q = some (.lst [x4, V.ref pb, V.ref p]) := upd_same
          generalize upd G0 q (.lst [x4, V.ref pb, V.ref p]) = GA at sA eq ⊢
          have BA := B0'.same sA
          have TA := TT0.stp (Same.stp sA)
          have oA : ∀ x ∈ [x4, V.ref pb, V.ref p], Okv K GA b 3 x := memc (o4.stp (Same.stp sA)) (memc (o5.stp (Same.stp sA)) (mem1 (o6.stp (Same.stp sA))))
          refine ⟨q, rfl, ⟨_, SqL.of eq⟩, for_list (K := K) (a := q) (xs := [x4, V.ref pb, V.ref p]) (fun _ σ H' => ∃ (y3 y4 y5 y6 y7 y8 y9 y10 y11 : Option V), σ = [some (.ref a), some (.ref b), some (.ref t), y3, y4, y5, y6, y7, y8, y9, y10, y11] ∧ Same GA H') ⟨_, _, _, _, _, _, _, _, _, rfl, Same.refl _⟩ (fun i σ H' _ ⟨_, _, _, _, _, _, _, _, _, _, s'⟩ => SqL.of (s' _ _ eq)) ?_ ?_⟩
          · rintro j v σ G' hv ⟨y3, y4, y5, y6, y7, y8, y9, y10, y11, rfl, sG⟩
            obtain ⟨o, tp⟩ := ((oA v (List.mem_of_getElem? hv)).stp (Same.stp sG)).tp
            refine ⟨v, rfl, v, b, 2, o, rfl, tp, fun G2 s2 => ?_⟩
            refine ⟨v, rfl, v, b, 2, o, rfl, tp.same s2, fun G3 s3 => ?_⟩
            refine ⟨(by show 2 ≤ sizeLine; decide), fun q1 h1 => ?_⟩
            have s4 : Same G3 (upd G3 q1 (.lst [V.bl (codeO o), V.bl (dataO o)])) := Same.new h1
            have f1 : (upd G3 q1 (.lst [V.bl (codeO o), V.bl (dataO o)])) q1 = some (.lst [V.bl (codeO o), V.bl (dataO o)]) := upd_same
            generalize upd G3 q1 (.lst [V.bl (codeO o), V.bl (dataO o)]) = G4 at s4 f1 ⊢
            have t4 := (s2.trans s3).trans s4
            refine ⟨v, rfl, v, b, 2, o, rfl, tp.same t4, fun G5 s5 => ?_⟩
            have t5 := t4.trans s5
            refine ⟨v, rfl, v, b, 2, o, rfl, tp.same t5, fun G6 s6 => ?_⟩
            have t6 := t5.trans s6
            refine ⟨v, rfl, rfl, rfl, v, b, 2, o, rfl, tp.same t6, fun G7 s7 => ?_⟩
            have t7 := t6.trans s7
            refine ⟨v, rfl, rfl, rfl, v, b, 2, o, rfl, tp.same t7, fun G8 s8 => ?_⟩
            have t8 := t7.trans s8
            refine ⟨(by show 4 ≤ sizeLine; decide), fun q2 h2 => ?_⟩
            have s9 : Same G8 (upd G8 q2 (.lst [V.bl (codeO o), V.bl (dataO o), V.bl (codeO o), V.bl (dataO o)])) := Same.new h2
            have f2 : (upd G8 q2 (.lst [V.bl (codeO o), V.bl (dataO o), V.bl (codeO o), V.bl (dataO o)])) q2 = some (.lst [V.bl (codeO o), V.bl (dataO o), V.bl (codeO o), V.bl (dataO o)]) := upd_same
            generalize upd G8 q2 (.lst [V.bl (codeO o), V.bl (dataO o), V.bl (codeO o), V.bl (dataO o)]) = G9 at s9 f2 ⊢
            have t9 := t8.trans s9
            have f19 := s9 _ _ (s8 _ _ (s7 _ _ (s6 _ _ (s5 _ _ f1))))
            refine ⟨.ref q1, rfl, .ref q1, rfl, q1, q1, _, _, rfl, rfl, f19, f19, (by show 4 ≤ sizeLine; decide), fun q3 h3 => ?_⟩
            have s10 : Same G9 (upd G9 q3 (.lst ([V.bl (codeO o), V.bl (dataO o)] ++ [V.bl (codeO o), V.bl (dataO o)]))) := Same.new h3
            have f3 : (upd G9 q3 (.lst ([V.bl (codeO o), V.bl (dataO o)] ++ [V.bl (codeO o), V.bl (dataO o)]))) q3 = some (.lst [V.bl (codeO o), V.bl (dataO o), V.bl (codeO o), V.bl (dataO o)]) := upd_same
            generalize upd G9 q3 (.lst ([V.bl (codeO o), V.bl (dataO o)] ++ [V.bl (codeO o), V.bl (dataO o)])) = GB at s10 f3 ⊢
            refine ⟨.ref q2, .ref q3, rfl, .lists (SqL.of (s10 _ _ f2)) (SqL.of f3) (by show 4 ≤ 100000; decide) (memc (.flat rfl) (memc (.flat rfl) (memc (.flat rfl) (mem1 (.flat rfl))))), fun GC s11 => ⟨true, rfl, iteF ?_⟩⟩
            exact ⟨_, _, _, _, _, _, _, _, _, rfl, sG.trans ((t9.trans s10).trans s11)⟩
          · rintro σ G' ⟨y3, y4, y5, y6, y7, y8, y9, y10, y11, rfl, sG⟩
            exact ⟨_, _, _, _, _, _, _, _, _, rfl, BA.same sG, TA.stp (Same.stp sG)⟩
    · rintro σ G ⟨y3, y4, y5, y6, y7, y8, y9, y10, y11, rfl, B, TT⟩
      refine ⟨b, l, rfl, B, fun G1 q xs s1 B1 eq nq l0 l1 oq => ⟨q, rfl, ⟨_, SqL.of eq⟩, for_list (K := K) (a := q) (xs := xs) (fun _ σ H' => ∃ (y3 y4 y5 y6 y7 y8 y9 y10 y11 : Option V), σ = [some (.ref a), some (.ref b), some (.ref t), y3, y4, y5, y6, y7, y8, y9, y10, y11] ∧ Same G1 H') ⟨_, _, _, _, _, _, _, _, _, rfl, Same.refl _⟩ (fun i σ H' _ ⟨_, _, _, _, _, _, _, _, _, _, s'⟩ => SqL.of (s' _ _ eq)) ?_ ?_⟩⟩
      · rintro i v σ G hv ⟨y3, y4, y5, y6, y7, y8, y9, y10, y11, rfl, sG⟩
        obtain ⟨o, tp⟩ := ((oq v (List.mem_of_getElem? hv)).stp (Same.stp sG)).tp
        refine ⟨v, rfl, v, b, 1, o, rfl, tp, fun G2 s2 => ?_⟩
        refine ⟨v, rfl, v, b, 1, o, rfl, tp.same s2, fun G3 s3 => ?_⟩
        refine ⟨(by show 2 ≤ sizeLine; decide), fun q1 h1 => ?_⟩
        have s4 : Same G3 (upd G3 q1 (.lst [V.bl (codeO o), V.bl (dataO o)])) := Same.new h1
        have f1 : (upd G3 q1 (.lst [V.bl (codeO o), V.bl (dataO o)])) q1 = some (.lst [V.bl (codeO o), V.bl (dataO o)]) := upd_same
        generalize upd G3 q1 (.lst [V.bl (codeO o), V.bl (dataO o)]) = G4 at s4 f1 ⊢
        have t4 := (s2.trans s3).trans s4
        refine ⟨v, rfl, v, b, 1, o, rfl, tp.same t4, fun G5 s5 => ?_⟩
        refine ⟨v, rfl, v, b, 1, o, rfl, tp.same (t4.trans s5), fun G6 s6 => ?_⟩
        refine ⟨(by show 2 ≤ sizeLine; decide), fun q2 h2 => ?_⟩
        have s7 : Same G6 (upd G6 q2 (.lst [V.bl (codeO o), V.bl (dataO o)])) := Same.new h2
        have f2 : (upd G6 q2 (.lst [V.bl (codeO o), V.bl (dataO o)])) q2 = some (.lst [V.bl (codeO o), V.bl (dataO o)]) := upd_same
        generalize upd G6 q2 (.lst [V.bl (codeO o), V.bl (dataO o)]) = G7 at s7 f2 ⊢
        refine ⟨.ref q1, .ref q2, rfl, .lists (SqL.of (s7 _ _ (s6 _ _ (s5 _ _ f1)))) (SqL.of f2) (by show 2 ≤ 100000; decide) (memc (.flat rfl) (mem1 (.flat rfl))), fun G8 s8 => ⟨true, rfl, iteF ?_⟩⟩
        exact ⟨_, _, _, _, _, _, _, _, _, rfl, sG.trans ((((t4.trans s5).trans s6).trans s7).trans s8)⟩
      · rintro σ G ⟨y3, y4, y5, y6, y7, y8, y9, y10, y11, rfl, sG⟩
        exact k _
end

/-! ### what the top has written, the head -/
theorem all_mk {l : PySem.W.OpenLaw} {w : World} {K : PySem.W.Frag} {h : Heap} {mg : Str → Option Value} {fa : Addr} (X : K.In h) (G : h.Ns mainGlobals mg) (hfa : mg "law" = some (.ref fa))
    {f_is_name f_is_register f_is_number f_is_code_row f_is_data_row f_is_closing f_name_in f_word_of f_fit f_fits f_law_bag f_law_draw f_law_of f_law_same f_law_odd f_law_titles f_law_number f_law_r f_law_code_row f_law_last_row f_law_data_row f_law_is_title f_law_within f_law_code_so f_law_data_so f_law_bent_row f_law_row_words f_law_bounds f_law  q_REGISTERS q_CODE_ROWS q_DATA_ROWS q_BOUNDS q_CLOSING q_NAMING : Addr}
    {od_is_name an_is_name od_is_register an_is_register od_is_number an_is_number od_is_code_row an_is_code_row od_is_data_row an_is_data_row od_is_closing an_is_closing od_name_in an_name_in od_word_of an_word_of od_fit an_fit od_fits an_fits od_law_bag an_law_bag od_law_draw an_law_draw od_law_of an_law_of od_law_same an_law_same od_law_odd an_law_odd od_law_titles an_law_titles od_law_number an_law_number od_law_r an_law_r od_law_code_row an_law_code_row od_law_last_row an_law_last_row od_law_data_row an_law_data_row od_law_is_title an_law_is_title od_law_within an_law_within od_law_code_so an_law_code_so od_law_data_so an_law_data_so od_law_bent_row an_law_bent_row od_law_row_words an_law_row_words od_law_bounds an_law_bounds od_law an_law : Option Addr} {sl_is_name sl_is_register sl_is_number sl_is_code_row sl_is_data_row sl_is_closing sl_name_in sl_word_of sl_fit sl_fits sl_law_bag sl_law_draw sl_law_of sl_law_same sl_law_odd sl_law_titles sl_law_number sl_law_r sl_law_code_row sl_law_last_row sl_law_data_row sl_law_is_title sl_law_within sl_law_code_so sl_law_data_so sl_law_bent_row sl_law_row_words sl_law_bounds sl_law : Array (Option Value)} {oc_is_name kV_is_name dc_is_name pm_is_name cd_is_name ct_is_name oc_is_register kV_is_register dc_is_register pm_is_register cd_is_register ct_is_register oc_is_number kV_is_number dc_is_number pm_is_number cd_is_number ct_is_number oc_is_code_row kV_is_code_row dc_is_code_row pm_is_code_row cd_is_code_row ct_is_code_row oc_is_data_row kV_is_data_row dc_is_data_row pm_is_data_row cd_is_data_row ct_is_data_row oc_is_closing kV_is_closing dc_is_closing pm_is_closing cd_is_closing ct_is_closing oc_name_in kV_name_in dc_name_in pm_name_in cd_name_in ct_name_in oc_word_of kV_word_of dc_word_of pm_word_of cd_word_of ct_word_of oc_fit kV_fit dc_fit pm_fit cd_fit ct_fit oc_fits kV_fits dc_fits pm_fits cd_fits ct_fits oc_law_bag kV_law_bag dc_law_bag pm_law_bag cd_law_bag ct_law_bag oc_law_draw kV_law_draw dc_law_draw pm_law_draw cd_law_draw ct_law_draw oc_law_of kV_law_of dc_law_of pm_law_of cd_law_of ct_law_of oc_law_same kV_law_same dc_law_same pm_law_same cd_law_same ct_law_same oc_law_odd kV_law_odd dc_law_odd pm_law_odd cd_law_odd ct_law_odd oc_law_titles kV_law_titles dc_law_titles pm_law_titles cd_law_titles ct_law_titles oc_law_number kV_law_number dc_law_number pm_law_number cd_law_number ct_law_number oc_law_r kV_law_r dc_law_r pm_law_r cd_law_r ct_law_r oc_law_code_row kV_law_code_row dc_law_code_row pm_law_code_row cd_law_code_row ct_law_code_row oc_law_last_row kV_law_last_row dc_law_last_row pm_law_last_row cd_law_last_row ct_law_last_row oc_law_data_row kV_law_data_row dc_law_data_row pm_law_data_row cd_law_data_row ct_law_data_row oc_law_is_title kV_law_is_title dc_law_is_title pm_law_is_title cd_law_is_title ct_law_is_title oc_law_within kV_law_within dc_law_within pm_law_within cd_law_within ct_law_within oc_law_code_so kV_law_code_so dc_law_code_so pm_law_code_so cd_law_code_so ct_law_code_so oc_law_data_so kV_law_data_so dc_law_data_so pm_law_data_so cd_law_data_so ct_law_data_so oc_law_bent_row kV_law_bent_row dc_law_bent_row pm_law_bent_row cd_law_bent_row ct_law_bent_row oc_law_row_words kV_law_row_words dc_law_row_words pm_law_row_words cd_law_row_words ct_law_row_words oc_law_bounds kV_law_bounds dc_law_bounds pm_law_bounds cd_law_bounds ct_law_bounds oc_law kV_law dc_law pm_law cd_law ct_law : Value}
    (a_is_name : PySem.W.nsIn K mainGlobals "is_name" = some (some (.ref f_is_name))) (l_is_name : K.lookup f_is_name = some ⟨oc_is_name, od_is_name, .func (PySem.W.fnOf "is_name" "is_name" (defArgs s_is_name) (defBody s_is_name) (defScope s_is_name) .none kV_is_name dc_is_name pm_is_name an_is_name cd_is_name ct_is_name), sl_is_name⟩) (c_is_name : PySem.W.codeIn K cd_is_name "is_name" = true) (k_is_name : PySem.W.keepIn K (.ref f_is_name) = true)
    (a_is_register : PySem.W.nsIn K mainGlobals "is_register" = some (some (.ref f_is_register))) (l_is_register : K.lookup f_is_register = some ⟨oc_is_register, od_is_register, .func (PySem.W.fnOf "is_register" "is_register" (defArgs s_is_register) (defBody s_is_register) (defScope s_is_register) .none kV_is_register dc_is_register pm_is_register an_is_register cd_is_register ct_is_register), sl_is_register⟩) (c_is_register : PySem.W.codeIn K cd_is_register "is_register" = true) (k_is_register : PySem.W.keepIn K (.ref f_is_register) = true)
    (a_is_number : PySem.W.nsIn K mainGlobals "is_number" = some (some (.ref f_is_number))) (l_is_number : K.lookup f_is_number = some ⟨oc_is_number, od_is_number, .func (PySem.W.fnOf "is_number" "is_number" (defArgs s_is_number) (defBody s_is_number) (defScope s_is_number) .none kV_is_number dc_is_number pm_is_number an_is_number cd_is_number ct_is_number), sl_is_number⟩) (c_is_number : PySem.W.codeIn K cd_is_number "is_number" = true) (k_is_number : PySem.W.keepIn K (.ref f_is_number) = true)
    (a_is_code_row : PySem.W.nsIn K mainGlobals "is_code_row" = some (some (.ref f_is_code_row))) (l_is_code_row : K.lookup f_is_code_row = some ⟨oc_is_code_row, od_is_code_row, .func (PySem.W.fnOf "is_code_row" "is_code_row" (defArgs s_is_code_row) (defBody s_is_code_row) (defScope s_is_code_row) .none kV_is_code_row dc_is_code_row pm_is_code_row an_is_code_row cd_is_code_row ct_is_code_row), sl_is_code_row⟩) (c_is_code_row : PySem.W.codeIn K cd_is_code_row "is_code_row" = true) (k_is_code_row : PySem.W.keepIn K (.ref f_is_code_row) = true)
    (a_is_data_row : PySem.W.nsIn K mainGlobals "is_data_row" = some (some (.ref f_is_data_row))) (l_is_data_row : K.lookup f_is_data_row = some ⟨oc_is_data_row, od_is_data_row, .func (PySem.W.fnOf "is_data_row" "is_data_row" (defArgs s_is_data_row) (defBody s_is_data_row) (defScope s_is_data_row) .none kV_is_data_row dc_is_data_row pm_is_data_row an_is_data_row cd_is_data_row ct_is_data_row), sl_is_data_row⟩) (c_is_data_row : PySem.W.codeIn K cd_is_data_row "is_data_row" = true) (k_is_data_row : PySem.W.keepIn K (.ref f_is_data_row) = true)
    (a_is_closing : PySem.W.nsIn K mainGlobals "is_closing" = some (some (.ref f_is_closing))) (l_is_closing : K.lookup f_is_closing = some ⟨oc_is_closing, od_is_closing, .func (PySem.W.fnOf "is_closing" "is_closing" (defArgs s_is_closing) (defBody s_is_closing) (defScope s_is_closing) .none kV_is_closing dc_is_closing pm_is_closing an_is_closing cd_is_closing ct_is_closing), sl_is_closing⟩) (c_is_closing : PySem.W.codeIn K cd_is_closing "is_closing" = true) (k_is_closing : PySem.W.keepIn K (.ref f_is_closing) = true)
    (a_name_in : PySem.W.nsIn K mainGlobals "name_in" = some (some (.ref f_name_in))) (l_name_in : K.lookup f_name_in = some ⟨oc_name_in, od_name_in, .func (PySem.W.fnOf "name_in" "name_in" (defArgs s_name_in) (defBody s_name_in) (defScope s_name_in) .none kV_name_in dc_name_in pm_name_in an_name_in cd_name_in ct_name_in), sl_name_in⟩) (c_name_in : PySem.W.codeIn K cd_name_in "name_in" = true) (k_name_in : PySem.W.keepIn K (.ref f_name_in) = true)
    (a_word_of : PySem.W.nsIn K mainGlobals "_word_of" = some (some (.ref f_word_of))) (l_word_of : K.lookup f_word_of = some ⟨oc_word_of, od_word_of, .func (PySem.W.fnOf "_word_of" "_word_of" (defArgs s_word_of) (defBody s_word_of) (defScope s_word_of) .none kV_word_of dc_word_of pm_word_of an_word_of cd_word_of ct_word_of), sl_word_of⟩) (c_word_of : PySem.W.codeIn K cd_word_of "_word_of" = true) (k_word_of : PySem.W.keepIn K (.ref f_word_of) = true)
    (a_fit : PySem.W.nsIn K mainGlobals "_fit" = some (some (.ref f_fit))) (l_fit : K.lookup f_fit = some ⟨oc_fit, od_fit, .func (PySem.W.fnOf "_fit" "_fit" (defArgs s_fit) (defBody s_fit) (defScope s_fit) .none kV_fit dc_fit pm_fit an_fit cd_fit ct_fit), sl_fit⟩) (c_fit : PySem.W.codeIn K cd_fit "_fit" = true) (k_fit : PySem.W.keepIn K (.ref f_fit) = true)
    (a_fits : PySem.W.nsIn K mainGlobals "_fits" = some (some (.ref f_fits))) (l_fits : K.lookup f_fits = some ⟨oc_fits, od_fits, .func (PySem.W.fnOf "_fits" "_fits" (defArgs s_fits) (defBody s_fits) (defScope s_fits) .none kV_fits dc_fits pm_fits an_fits cd_fits ct_fits), sl_fits⟩) (c_fits : PySem.W.codeIn K cd_fits "_fits" = true) (k_fits : PySem.W.keepIn K (.ref f_fits) = true)
    (a_law_bag : PySem.W.nsIn K mainGlobals "_law_bag" = some (some (.ref f_law_bag))) (l_law_bag : K.lookup f_law_bag = some ⟨oc_law_bag, od_law_bag, .func (PySem.W.fnOf "_law_bag" "_law_bag" (defArgs s_law_bag) (defBody s_law_bag) (defScope s_law_bag) .none kV_law_bag dc_law_bag pm_law_bag an_law_bag cd_law_bag ct_law_bag), sl_law_bag⟩) (c_law_bag : PySem.W.codeIn K cd_law_bag "_law_bag" = true) (k_law_bag : PySem.W.keepIn K (.ref f_law_bag) = true)
    (a_law_draw : PySem.W.nsIn K mainGlobals "_law_draw" = some (some (.ref f_law_draw))) (l_law_draw : K.lookup f_law_draw = some ⟨oc_law_draw, od_law_draw, .func (PySem.W.fnOf "_law_draw" "_law_draw" (defArgs s_law_draw) (defBody s_law_draw) (defScope s_law_draw) .none kV_law_draw dc_law_draw pm_law_draw an_law_draw cd_law_draw ct_law_draw), sl_law_draw⟩) (c_law_draw : PySem.W.codeIn K cd_law_draw "_law_draw" = true) (k_law_draw : PySem.W.keepIn K (.ref f_law_draw) = true)
    (a_law_of : PySem.W.nsIn K mainGlobals "_law_of" = some (some (.ref f_law_of))) (l_law_of : K.lookup f_law_of = some ⟨oc_law_of, od_law_of, .func (PySem.W.fnOf "_law_of" "_law_of" (defArgs s_law_of) (defBody s_law_of) (defScope s_law_of) .none kV_law_of dc_law_of pm_law_of an_law_of cd_law_of ct_law_of), sl_law_of⟩) (c_law_of : PySem.W.codeIn K cd_law_of "_law_of" = true) (k_law_of : PySem.W.keepIn K (.ref f_law_of) = true)
    (a_law_same : PySem.W.nsIn K mainGlobals "_law_same" = some (some (.ref f_law_same))) (l_law_same : K.lookup f_law_same = some ⟨oc_law_same, od_law_same, .func (PySem.W.fnOf "_law_same" "_law_same" (defArgs s_law_same) (defBody s_law_same) (defScope s_law_same) .none kV_law_same dc_law_same pm_law_same an_law_same cd_law_same ct_law_same), sl_law_same⟩) (c_law_same : PySem.W.codeIn K cd_law_same "_law_same" = true) (k_law_same : PySem.W.keepIn K (.ref f_law_same) = true)
    (a_law_odd : PySem.W.nsIn K mainGlobals "_law_odd" = some (some (.ref f_law_odd))) (l_law_odd : K.lookup f_law_odd = some ⟨oc_law_odd, od_law_odd, .func (PySem.W.fnOf "_law_odd" "_law_odd" (defArgs s_law_odd) (defBody s_law_odd) (defScope s_law_odd) .none kV_law_odd dc_law_odd pm_law_odd an_law_odd cd_law_odd ct_law_odd), sl_law_odd⟩) (c_law_odd : PySem.W.codeIn K cd_law_odd "_law_odd" = true) (k_law_odd : PySem.W.keepIn K (.ref f_law_odd) = true)
    (a_law_titles : PySem.W.nsIn K mainGlobals "_law_titles" = some (some (.ref f_law_titles))) (l_law_titles : K.lookup f_law_titles = some ⟨oc_law_titles, od_law_titles, .func (PySem.W.fnOf "_law_titles" "_law_titles" (defArgs s_law_titles) (defBody s_law_titles) (defScope s_law_titles) .none kV_law_titles dc_law_titles pm_law_titles an_law_titles cd_law_titles ct_law_titles), sl_law_titles⟩) (c_law_titles : PySem.W.codeIn K cd_law_titles "_law_titles" = true) (k_law_titles : PySem.W.keepIn K (.ref f_law_titles) = true)
    (a_law_number : PySem.W.nsIn K mainGlobals "_law_number" = some (some (.ref f_law_number))) (l_law_number : K.lookup f_law_number = some ⟨oc_law_number, od_law_number, .func (PySem.W.fnOf "_law_number" "_law_number" (defArgs s_law_number) (defBody s_law_number) (defScope s_law_number) .none kV_law_number dc_law_number pm_law_number an_law_number cd_law_number ct_law_number), sl_law_number⟩) (c_law_number : PySem.W.codeIn K cd_law_number "_law_number" = true) (k_law_number : PySem.W.keepIn K (.ref f_law_number) = true)
    (a_law_r : PySem.W.nsIn K mainGlobals "_law_r" = some (some (.ref f_law_r))) (l_law_r : K.lookup f_law_r = some ⟨oc_law_r, od_law_r, .func (PySem.W.fnOf "_law_r" "_law_r" (defArgs s_law_r) (defBody s_law_r) (defScope s_law_r) .none kV_law_r dc_law_r pm_law_r an_law_r cd_law_r ct_law_r), sl_law_r⟩) (c_law_r : PySem.W.codeIn K cd_law_r "_law_r" = true) (k_law_r : PySem.W.keepIn K (.ref f_law_r) = true)
    (a_law_code_row : PySem.W.nsIn K mainGlobals "_law_code_row" = some (some (.ref f_law_code_row))) (l_law_code_row : K.lookup f_law_code_row = some ⟨oc_law_code_row, od_law_code_row, .func (PySem.W.fnOf "_law_code_row" "_law_code_row" (defArgs s_law_code_row) (defBody s_law_code_row) (defScope s_law_code_row) .none kV_law_code_row dc_law_code_row pm_law_code_row an_law_code_row cd_law_code_row ct_law_code_row), sl_law_code_row⟩) (c_law_code_row : PySem.W.codeIn K cd_law_code_row "_law_code_row" = true) (k_law_code_row : PySem.W.keepIn K (.ref f_law_code_row) = true)
    (a_law_last_row : PySem.W.nsIn K mainGlobals "_law_last_row" = some (some (.ref f_law_last_row))) (l_law_last_row : K.lookup f_law_last_row = some ⟨oc_law_last_row, od_law_last_row, .func (PySem.W.fnOf "_law_last_row" "_law_last_row" (defArgs s_law_last_row) (defBody s_law_last_row) (defScope s_law_last_row) .none kV_law_last_row dc_law_last_row pm_law_last_row an_law_last_row cd_law_last_row ct_law_last_row), sl_law_last_row⟩) (c_law_last_row : PySem.W.codeIn K cd_law_last_row "_law_last_row" = true) (k_law_last_row : PySem.W.keepIn K (.ref f_law_last_row) = true)
    (a_law_data_row : PySem.W.nsIn K mainGlobals "_law_data_row" = some (some (.ref f_law_data_row))) (l_law_data_row : K.lookup f_law_data_row = some ⟨oc_law_data_row, od_law_data_row, .func (PySem.W.fnOf "_law_data_row" "_law_data_row" (defArgs s_law_data_row) (defBody s_law_data_row) (defScope s_law_data_row) .none kV_law_data_row dc_law_data_row pm_law_data_row an_law_data_row cd_law_data_row ct_law_data_row), sl_law_data_row⟩) (c_law_data_row : PySem.W.codeIn K cd_law_data_row "_law_data_row" = true) (k_law_data_row : PySem.W.keepIn K (.ref f_law_data_row) = true)
    (a_law_is_title : PySem.W.nsIn K mainGlobals "_law_is_title" = some (some (.ref f_law_is_title))) (l_law_is_title : K.lookup f_law_is_title = some ⟨oc_law_is_title, od_law_is_title, .func (PySem.W.fnOf "_law_is_title" "_law_is_title" (defArgs s_law_is_title) (defBody s_law_is_title) (defScope s_law_is_title) .none kV_law_is_title dc_law_is_title pm_law_is_title an_law_is_title cd_law_is_title ct_law_is_title), sl_law_is_title⟩) (c_law_is_title : PySem.W.codeIn K cd_law_is_title "_law_is_title" = true) (k_law_is_title : PySem.W.keepIn K (.ref f_law_is_title) = true)
    (a_law_within : PySem.W.nsIn K mainGlobals "_law_within" = some (some (.ref f_law_within))) (l_law_within : K.lookup f_law_within = some ⟨oc_law_within, od_law_within, .func (PySem.W.fnOf "_law_within" "_law_within" (defArgs s_law_within) (defBody s_law_within) (defScope s_law_within) .none kV_law_within dc_law_within pm_law_within an_law_within cd_law_within ct_law_within), sl_law_within⟩) (c_law_within : PySem.W.codeIn K cd_law_within "_law_within" = true) (k_law_within : PySem.W.keepIn K (.ref f_law_within) = true)
    (a_law_code_so : PySem.W.nsIn K mainGlobals "_law_code_so" = some (some (.ref f_law_code_so))) (l_law_code_so : K.lookup f_law_code_so = some ⟨oc_law_code_so, od_law_code_so, .func (PySem.W.fnOf "_law_code_so" "_law_code_so" (defArgs s_law_code_so) (defBody s_law_code_so) (defScope s_law_code_so) .none kV_law_code_so dc_law_code_so pm_law_code_so an_law_code_so cd_law_code_so ct_law_code_so), sl_law_code_so⟩) (c_law_code_so : PySem.W.codeIn K cd_law_code_so "_law_code_so" = true) (k_law_code_so : PySem.W.keepIn K (.ref f_law_code_so) = true)
    (a_law_data_so : PySem.W.nsIn K mainGlobals "_law_data_so" = some (some (.ref f_law_data_so))) (l_law_data_so : K.lookup f_law_data_so = some ⟨oc_law_data_so, od_law_data_so, .func (PySem.W.fnOf "_law_data_so" "_law_data_so" (defArgs s_law_data_so) (defBody s_law_data_so) (defScope s_law_data_so) .none kV_law_data_so dc_law_data_so pm_law_data_so an_law_data_so cd_law_data_so ct_law_data_so), sl_law_data_so⟩) (c_law_data_so : PySem.W.codeIn K cd_law_data_so "_law_data_so" = true) (k_law_data_so : PySem.W.keepIn K (.ref f_law_data_so) = true)
    (a_law_bent_row : PySem.W.nsIn K mainGlobals "_law_bent_row" = some (some (.ref f_law_bent_row))) (l_law_bent_row : K.lookup f_law_bent_row = some ⟨oc_law_bent_row, od_law_bent_row, .func (PySem.W.fnOf "_law_bent_row" "_law_bent_row" (defArgs s_law_bent_row) (defBody s_law_bent_row) (defScope s_law_bent_row) .none kV_law_bent_row dc_law_bent_row pm_law_bent_row an_law_bent_row cd_law_bent_row ct_law_bent_row), sl_law_bent_row⟩) (c_law_bent_row : PySem.W.codeIn K cd_law_bent_row "_law_bent_row" = true) (k_law_bent_row : PySem.W.keepIn K (.ref f_law_bent_row) = true)
    (a_law_row_words : PySem.W.nsIn K mainGlobals "_law_row_words" = some (some (.ref f_law_row_words))) (l_law_row_words : K.lookup f_law_row_words = some ⟨oc_law_row_words, od_law_row_words, .func (PySem.W.fnOf "_law_row_words" "_law_row_words" (defArgs s_law_row_words) (defBody s_law_row_words) (defScope s_law_row_words) .none kV_law_row_words dc_law_row_words pm_law_row_words an_law_row_words cd_law_row_words ct_law_row_words), sl_law_row_words⟩) (c_law_row_words : PySem.W.codeIn K cd_law_row_words "_law_row_words" = true) (k_law_row_words : PySem.W.keepIn K (.ref f_law_row_words) = true)
    (a_law_bounds : PySem.W.nsIn K mainGlobals "_law_bounds" = some (some (.ref f_law_bounds))) (l_law_bounds : K.lookup f_law_bounds = some ⟨oc_law_bounds, od_law_bounds, .func (PySem.W.fnOf "_law_bounds" "_law_bounds" (defArgs s_law_bounds) (defBody s_law_bounds) (defScope s_law_bounds) .none kV_law_bounds dc_law_bounds pm_law_bounds an_law_bounds cd_law_bounds ct_law_bounds), sl_law_bounds⟩) (c_law_bounds : PySem.W.codeIn K cd_law_bounds "_law_bounds" = true) (k_law_bounds : PySem.W.keepIn K (.ref f_law_bounds) = true)
    (a_law : PySem.W.nsIn K mainGlobals "law" = some (some (.ref f_law))) (l_law : K.lookup f_law = some ⟨oc_law, od_law, .func (PySem.W.fnOf "law" "law" (defArgs s_law) (defBody s_law) (defScope s_law) .none kV_law dc_law pm_law an_law cd_law ct_law), sl_law⟩) (c_law : PySem.W.codeIn K cd_law "law" = true) (k_law : PySem.W.keepIn K (.ref f_law) = true)
    (n_abs : PySem.W.nsIn K mainGlobals "abs" = some none)
    (n_all : PySem.W.nsIn K mainGlobals "all" = some none)
    (n_bool : PySem.W.nsIn K mainGlobals "bool" = some none)
    (n_int : PySem.W.nsIn K mainGlobals "int" = some none)
    (n_isinstance : PySem.W.nsIn K mainGlobals "isinstance" = some none)
    (n_len : PySem.W.nsIn K mainGlobals "len" = some none)
    (n_list : PySem.W.nsIn K mainGlobals "list" = some none)
    (n_range : PySem.W.nsIn K mainGlobals "range" = some none)
    (n_str : PySem.W.nsIn K mainGlobals "str" = some none)
    (n_tuple : PySem.W.nsIn K mainGlobals "tuple" = some none)
    (n_zip : PySem.W.nsIn K mainGlobals "zip" = some none)
    {tk_MOST_LETTERS : Tok} (g_MOST_LETTERS : PySem.W.nsIn K mainGlobals "MOST_LETTERS" = some (some (.int 6 tk_MOST_LETTERS)))
    (g_REGISTERS : PySem.W.nsIn K mainGlobals "REGISTERS" = some (some (.ref q_REGISTERS)))
    {qi_REGISTERS : Array Value} {qn_REGISTERS : Nat} {qs_REGISTERS : Array (Option Value)} (v_REGISTERS : K.lookup q_REGISTERS = some ⟨.type "tuple", none, .seq qi_REGISTERS qn_REGISTERS, qs_REGISTERS⟩) (w_REGISTERS : Vals [.str "r0", .str "r1", .str "r2"] qi_REGISTERS.toList)
    (g_CODE_ROWS : PySem.W.nsIn K mainGlobals "CODE_ROWS" = some (some (.ref q_CODE_ROWS)))
    (g_DATA_ROWS : PySem.W.nsIn K mainGlobals "DATA_ROWS" = some (some (.ref q_DATA_ROWS)))
    (g_BOUNDS : PySem.W.nsIn K mainGlobals "BOUNDS" = some (some (.ref q_BOUNDS)))
    (g_CLOSING : PySem.W.nsIn K mainGlobals "CLOSING" = some (some (.ref q_CLOSING)))
    {qi_CLOSING : Array Value} {qn_CLOSING : Nat} {qs_CLOSING : Array (Option Value)} (v_CLOSING : K.lookup q_CLOSING = some ⟨.type "tuple", none, .seq qi_CLOSING qn_CLOSING, qs_CLOSING⟩) (w_CLOSING : Vals [.str "jump", .str "halt", .str "back"] qi_CLOSING.toList)
    (g_NAMING : PySem.W.nsIn K mainGlobals "NAMING" = some (some (.ref q_NAMING)))
    {qi_NAMING : Array Value} {qn_NAMING : Nat} {qs_NAMING : Array (Option Value)} (v_NAMING : K.lookup q_NAMING = some ⟨.type "tuple", none, .seq qi_NAMING qn_NAMING, qs_NAMING⟩) (w_NAMING : Vals [.str "name", .str "jump", .str "ifzero", .str "call", .str "address"] qi_NAMING.toList)
    {qe_CODE_ROWS : Array DictEntry} {qz_CODE_ROWS : Nat} (dl_CODE_ROWS : K.lookup q_CODE_ROWS = some ⟨.type "dict", none, .dict qe_CODE_ROWS qz_CODE_ROWS, #[]⟩) (dk_CODE_ROWS : PySem.W.KeysLit w.params qe_CODE_ROWS.toList) (dw_CODE_ROWS : (q_CODE_ROWS == sysModules) = false)
    {t_CODE_ROWS_put : Addr}
    {t_CODE_ROWS_name : Addr}
    {t_CODE_ROWS_add : Addr}
    {t_CODE_ROWS_take : Addr}
    {t_CODE_ROWS_load : Addr}
    {t_CODE_ROWS_store : Addr}
    {t_CODE_ROWS_jump : Addr}
    {t_CODE_ROWS_ifzero : Addr}
    {t_CODE_ROWS_call : Addr}
    {t_CODE_ROWS_callby : Addr}
    {t_CODE_ROWS_back : Addr}
    {t_CODE_ROWS_out : Addr}
    {t_CODE_ROWS_halt : Addr}
    {t_CODE_ROWS_room : Addr}
    (pe_CODE_ROWS : Paired (fun (d : DictEntry) (p : Str × Value) => (∃ t, d.key = .str p.1 t) ∧ d.val = p.2) qe_CODE_ROWS.toList [("put", Value.ref t_CODE_ROWS_put), ("name", Value.ref t_CODE_ROWS_name), ("add", Value.ref t_CODE_ROWS_add), ("take", Value.ref t_CODE_ROWS_take), ("load", Value.ref t_CODE_ROWS_load), ("store", Value.ref t_CODE_ROWS_store), ("jump", Value.ref t_CODE_ROWS_jump), ("ifzero", Value.ref t_CODE_ROWS_ifzero), ("call", Value.ref t_CODE_ROWS_call), ("callby", Value.ref t_CODE_ROWS_callby), ("back", Value.ref t_CODE_ROWS_back), ("out", Value.ref t_CODE_ROWS_out), ("halt", Value.ref t_CODE_ROWS_halt), ("room", Value.ref t_CODE_ROWS_room)])
    {yd_CODE_ROWS_put : Option Addr} {yi_CODE_ROWS_put : Array Value} {yn_CODE_ROWS_put : Nat} {ys_CODE_ROWS_put : Array (Option Value)} (y_CODE_ROWS_put : K.lookup t_CODE_ROWS_put = some ⟨.type "tuple", yd_CODE_ROWS_put, .seq yi_CODE_ROWS_put yn_CODE_ROWS_put, ys_CODE_ROWS_put⟩) (u_CODE_ROWS_put : Vals [.str "R", .str "n"] yi_CODE_ROWS_put.toList)
    {yd_CODE_ROWS_name : Option Addr} {yi_CODE_ROWS_name : Array Value} {yn_CODE_ROWS_name : Nat} {ys_CODE_ROWS_name : Array (Option Value)} (y_CODE_ROWS_name : K.lookup t_CODE_ROWS_name = some ⟨.type "tuple", yd_CODE_ROWS_name, .seq yi_CODE_ROWS_name yn_CODE_ROWS_name, ys_CODE_ROWS_name⟩) (u_CODE_ROWS_name : Vals [.str "R", .str "N"] yi_CODE_ROWS_name.toList)
    {yd_CODE_ROWS_add : Option Addr} {yi_CODE_ROWS_add : Array Value} {yn_CODE_ROWS_add : Nat} {ys_CODE_ROWS_add : Array (Option Value)} (y_CODE_ROWS_add : K.lookup t_CODE_ROWS_add = some ⟨.type "tuple", yd_CODE_ROWS_add, .seq yi_CODE_ROWS_add yn_CODE_ROWS_add, ys_CODE_ROWS_add⟩) (u_CODE_ROWS_add : Vals [.str "R", .str "R"] yi_CODE_ROWS_add.toList)
    {yd_CODE_ROWS_take : Option Addr} {yi_CODE_ROWS_take : Array Value} {yn_CODE_ROWS_take : Nat} {ys_CODE_ROWS_take : Array (Option Value)} (y_CODE_ROWS_take : K.lookup t_CODE_ROWS_take = some ⟨.type "tuple", yd_CODE_ROWS_take, .seq yi_CODE_ROWS_take yn_CODE_ROWS_take, ys_CODE_ROWS_take⟩) (u_CODE_ROWS_take : Vals [.str "R", .str "R"] yi_CODE_ROWS_take.toList)
    {yd_CODE_ROWS_load : Option Addr} {yi_CODE_ROWS_load : Array Value} {yn_CODE_ROWS_load : Nat} {ys_CODE_ROWS_load : Array (Option Value)} (y_CODE_ROWS_load : K.lookup t_CODE_ROWS_load = some ⟨.type "tuple", yd_CODE_ROWS_load, .seq yi_CODE_ROWS_load yn_CODE_ROWS_load, ys_CODE_ROWS_load⟩) (u_CODE_ROWS_load : Vals [.str "R", .str "R", .str "d"] yi_CODE_ROWS_load.toList)
    {yd_CODE_ROWS_store : Option Addr} {yi_CODE_ROWS_store : Array Value} {yn_CODE_ROWS_store : Nat} {ys_CODE_ROWS_store : Array (Option Value)} (y_CODE_ROWS_store : K.lookup t_CODE_ROWS_store = some ⟨.type "tuple", yd_CODE_ROWS_store, .seq yi_CODE_ROWS_store yn_CODE_ROWS_store, ys_CODE_ROWS_store⟩) (u_CODE_ROWS_store : Vals [.str "R", .str "R", .str "d"] yi_CODE_ROWS_store.toList)
    {yd_CODE_ROWS_jump : Option Addr} {yi_CODE_ROWS_jump : Array Value} {yn_CODE_ROWS_jump : Nat} {ys_CODE_ROWS_jump : Array (Option Value)} (y_CODE_ROWS_jump : K.lookup t_CODE_ROWS_jump = some ⟨.type "tuple", yd_CODE_ROWS_jump, .seq yi_CODE_ROWS_jump yn_CODE_ROWS_jump, ys_CODE_ROWS_jump⟩) (u_CODE_ROWS_jump : Vals [.str "N"] yi_CODE_ROWS_jump.toList)
    {yd_CODE_ROWS_ifzero : Option Addr} {yi_CODE_ROWS_ifzero : Array Value} {yn_CODE_ROWS_ifzero : Nat} {ys_CODE_ROWS_ifzero : Array (Option Value)} (y_CODE_ROWS_ifzero : K.lookup t_CODE_ROWS_ifzero = some ⟨.type "tuple", yd_CODE_ROWS_ifzero, .seq yi_CODE_ROWS_ifzero yn_CODE_ROWS_ifzero, ys_CODE_ROWS_ifzero⟩) (u_CODE_ROWS_ifzero : Vals [.str "R", .str "N"] yi_CODE_ROWS_ifzero.toList)
    {yd_CODE_ROWS_call : Option Addr} {yi_CODE_ROWS_call : Array Value} {yn_CODE_ROWS_call : Nat} {ys_CODE_ROWS_call : Array (Option Value)} (y_CODE_ROWS_call : K.lookup t_CODE_ROWS_call = some ⟨.type "tuple", yd_CODE_ROWS_call, .seq yi_CODE_ROWS_call yn_CODE_ROWS_call, ys_CODE_ROWS_call⟩) (u_CODE_ROWS_call : Vals [.str "N"] yi_CODE_ROWS_call.toList)
    {yd_CODE_ROWS_callby : Option Addr} {yi_CODE_ROWS_callby : Array Value} {yn_CODE_ROWS_callby : Nat} {ys_CODE_ROWS_callby : Array (Option Value)} (y_CODE_ROWS_callby : K.lookup t_CODE_ROWS_callby = some ⟨.type "tuple", yd_CODE_ROWS_callby, .seq yi_CODE_ROWS_callby yn_CODE_ROWS_callby, ys_CODE_ROWS_callby⟩) (u_CODE_ROWS_callby : Vals [.str "R"] yi_CODE_ROWS_callby.toList)
    {yd_CODE_ROWS_back : Option Addr} {yi_CODE_ROWS_back : Array Value} {yn_CODE_ROWS_back : Nat} {ys_CODE_ROWS_back : Array (Option Value)} (y_CODE_ROWS_back : K.lookup t_CODE_ROWS_back = some ⟨.type "tuple", yd_CODE_ROWS_back, .seq yi_CODE_ROWS_back yn_CODE_ROWS_back, ys_CODE_ROWS_back⟩) (u_CODE_ROWS_back : Vals [] yi_CODE_ROWS_back.toList)
    {yd_CODE_ROWS_out : Option Addr} {yi_CODE_ROWS_out : Array Value} {yn_CODE_ROWS_out : Nat} {ys_CODE_ROWS_out : Array (Option Value)} (y_CODE_ROWS_out : K.lookup t_CODE_ROWS_out = some ⟨.type "tuple", yd_CODE_ROWS_out, .seq yi_CODE_ROWS_out yn_CODE_ROWS_out, ys_CODE_ROWS_out⟩) (u_CODE_ROWS_out : Vals [.str "R"] yi_CODE_ROWS_out.toList)
    {yd_CODE_ROWS_halt : Option Addr} {yi_CODE_ROWS_halt : Array Value} {yn_CODE_ROWS_halt : Nat} {ys_CODE_ROWS_halt : Array (Option Value)} (y_CODE_ROWS_halt : K.lookup t_CODE_ROWS_halt = some ⟨.type "tuple", yd_CODE_ROWS_halt, .seq yi_CODE_ROWS_halt yn_CODE_ROWS_halt, ys_CODE_ROWS_halt⟩) (u_CODE_ROWS_halt : Vals [] yi_CODE_ROWS_halt.toList)
    {yd_CODE_ROWS_room : Option Addr} {yi_CODE_ROWS_room : Array Value} {yn_CODE_ROWS_room : Nat} {ys_CODE_ROWS_room : Array (Option Value)} (y_CODE_ROWS_room : K.lookup t_CODE_ROWS_room = some ⟨.type "tuple", yd_CODE_ROWS_room, .seq yi_CODE_ROWS_room yn_CODE_ROWS_room, ys_CODE_ROWS_room⟩) (u_CODE_ROWS_room : Vals [.str "k"] yi_CODE_ROWS_room.toList)
    {qe_DATA_ROWS : Array DictEntry} {qz_DATA_ROWS : Nat} (dl_DATA_ROWS : K.lookup q_DATA_ROWS = some ⟨.type "dict", none, .dict qe_DATA_ROWS qz_DATA_ROWS, #[]⟩) (dk_DATA_ROWS : PySem.W.KeysLit w.params qe_DATA_ROWS.toList) (dw_DATA_ROWS : (q_DATA_ROWS == sysModules) = false)
    {t_DATA_ROWS_word : Addr}
    {t_DATA_ROWS_address : Addr}
    {t_DATA_ROWS_room : Addr}
    (pe_DATA_ROWS : Paired (fun (d : DictEntry) (p : Str × Value) => (∃ t, d.key = .str p.1 t) ∧ d.val = p.2) qe_DATA_ROWS.toList [("word", Value.ref t_DATA_ROWS_word), ("address", Value.ref t_DATA_ROWS_address), ("room", Value.ref t_DATA_ROWS_room)])
    {yd_DATA_ROWS_word : Option Addr} {yi_DATA_ROWS_word : Array Value} {yn_DATA_ROWS_word : Nat} {ys_DATA_ROWS_word : Array (Option Value)} (y_DATA_ROWS_word : K.lookup t_DATA_ROWS_word = some ⟨.type "tuple", yd_DATA_ROWS_word, .seq yi_DATA_ROWS_word yn_DATA_ROWS_word, ys_DATA_ROWS_word⟩) (u_DATA_ROWS_word : Vals [.str "n"] yi_DATA_ROWS_word.toList)
    {yd_DATA_ROWS_address : Option Addr} {yi_DATA_ROWS_address : Array Value} {yn_DATA_ROWS_address : Nat} {ys_DATA_ROWS_address : Array (Option Value)} (y_DATA_ROWS_address : K.lookup t_DATA_ROWS_address = some ⟨.type "tuple", yd_DATA_ROWS_address, .seq yi_DATA_ROWS_address yn_DATA_ROWS_address, ys_DATA_ROWS_address⟩) (u_DATA_ROWS_address : Vals [.str "N"] yi_DATA_ROWS_address.toList)
    {yd_DATA_ROWS_room : Option Addr} {yi_DATA_ROWS_room : Array Value} {yn_DATA_ROWS_room : Nat} {ys_DATA_ROWS_room : Array (Option Value)} (y_DATA_ROWS_room : K.lookup t_DATA_ROWS_room = some ⟨.type "tuple", yd_DATA_ROWS_room, .seq yi_DATA_ROWS_room yn_DATA_ROWS_room, ys_DATA_ROWS_room⟩) (u_DATA_ROWS_room : Vals [.str "k"] yi_DATA_ROWS_room.toList)
    {qe_BOUNDS : Array DictEntry} {qz_BOUNDS : Nat} (dl_BOUNDS : K.lookup q_BOUNDS = some ⟨.type "dict", none, .dict qe_BOUNDS qz_BOUNDS, #[]⟩) (dk_BOUNDS : PySem.W.KeysLit w.params qe_BOUNDS.toList) (dw_BOUNDS : (q_BOUNDS == sysModules) = false)
    {t_BOUNDS_n : Addr}
    {t_BOUNDS_d : Addr}
    {t_BOUNDS_k : Addr}
    (pe_BOUNDS : Paired (fun (d : DictEntry) (p : Str × Value) => (∃ t, d.key = .str p.1 t) ∧ d.val = p.2) qe_BOUNDS.toList [("n", Value.ref t_BOUNDS_n), ("d", Value.ref t_BOUNDS_d), ("k", Value.ref t_BOUNDS_k)])
    {yd_BOUNDS_n : Option Addr} {yi_BOUNDS_n : Array Value} {yn_BOUNDS_n : Nat} {ys_BOUNDS_n : Array (Option Value)} (y_BOUNDS_n : K.lookup t_BOUNDS_n = some ⟨.type "tuple", yd_BOUNDS_n, .seq yi_BOUNDS_n yn_BOUNDS_n, ys_BOUNDS_n⟩) (u_BOUNDS_n : Vals [.int 0, .int 65535] yi_BOUNDS_n.toList)
    {yd_BOUNDS_d : Option Addr} {yi_BOUNDS_d : Array Value} {yn_BOUNDS_d : Nat} {ys_BOUNDS_d : Array (Option Value)} (y_BOUNDS_d : K.lookup t_BOUNDS_d = some ⟨.type "tuple", yd_BOUNDS_d, .seq yi_BOUNDS_d yn_BOUNDS_d, ys_BOUNDS_d⟩) (u_BOUNDS_d : Vals [.int 0, .int 15] yi_BOUNDS_d.toList)
    {yd_BOUNDS_k : Option Addr} {yi_BOUNDS_k : Array Value} {yn_BOUNDS_k : Nat} {ys_BOUNDS_k : Array (Option Value)} (y_BOUNDS_k : K.lookup t_BOUNDS_k = some ⟨.type "tuple", yd_BOUNDS_k, .seq yi_BOUNDS_k yn_BOUNDS_k, ys_BOUNDS_k⟩) (u_BOUNDS_k : Vals [.int 1, .int 120] yi_BOUNDS_k.toList)
    : ∃ fd : FuncData, (∀ (s : Shared) (v : Value), BindsTo s fd ⟨[v], []⟩ [("_law_script", v)]) ∧ ∀ base : Heap, K.In base → base.Ns mainGlobals mg → FnOk l.prog w K mg base CX0 6 fa fd ["_law_script"] (sp_law K) := by
  have e := hfa.symm.trans (PySem.W.mg_of X G a_law)
  cases e
  have F_is_name := fun_mk (st := s_is_name) l_is_name c_is_name k_is_name
  have F_is_register := fun_mk (st := s_is_register) l_is_register c_is_register k_is_register
  have F_is_number := fun_mk (st := s_is_number) l_is_number c_is_number k_is_number
  have F_is_code_row := fun_mk (st := s_is_code_row) l_is_code_row c_is_code_row k_is_code_row
  have F_is_data_row := fun_mk (st := s_is_data_row) l_is_data_row c_is_data_row k_is_data_row
  have F_is_closing := fun_mk (st := s_is_closing) l_is_closing c_is_closing k_is_closing
  have F_name_in := fun_mk (st := s_name_in) l_name_in c_name_in k_name_in
  have F_word_of := fun_mk (st := s_word_of) l_word_of c_word_of k_word_of
  have F_fit := fun_mk (st := s_fit) l_fit c_fit k_fit
  have F_fits := fun_mk (st := s_fits) l_fits c_fits k_fits
  have F_law_bag := fun_mk (st := s_law_bag) l_law_bag c_law_bag k_law_bag
  have F_law_draw := fun_mk (st := s_law_draw) l_law_draw c_law_draw k_law_draw
  have F_law_of := fun_mk (st := s_law_of) l_law_of c_law_of k_law_of
  have F_law_same := fun_mk (st := s_law_same) l_law_same c_law_same k_law_same
  have F_law_odd := fun_mk (st := s_law_odd) l_law_odd c_law_odd k_law_odd
  have F_law_titles := fun_mk (st := s_law_titles) l_law_titles c_law_titles k_law_titles
  have F_law_number := fun_mk (st := s_law_number) l_law_number c_law_number k_law_number
  have F_law_r := fun_mk (st := s_law_r) l_law_r c_law_r k_law_r
  have F_law_code_row := fun_mk (st := s_law_code_row) l_law_code_row c_law_code_row k_law_code_row
  have F_law_last_row := fun_mk (st := s_law_last_row) l_law_last_row c_law_last_row k_law_last_row
  have F_law_data_row := fun_mk (st := s_law_data_row) l_law_data_row c_law_data_row k_law_data_row
  have F_law_is_title := fun_mk (st := s_law_is_title) l_law_is_title c_law_is_title k_law_is_title
  have F_law_within := fun_mk (st := s_law_within) l_law_within c_law_within k_law_within
  have F_law_code_so := fun_mk (st := s_law_code_so) l_law_code_so c_law_code_so k_law_code_so
  have F_law_data_so := fun_mk (st := s_law_data_so) l_law_data_so c_law_data_so k_law_data_so
  have F_law_bent_row := fun_mk (st := s_law_bent_row) l_law_bent_row c_law_bent_row k_law_bent_row
  have F_law_row_words := fun_mk (st := s_law_row_words) l_law_row_words c_law_row_words k_law_row_words
  have F_law_bounds := fun_mk (st := s_law_bounds) l_law_bounds c_law_bounds k_law_bounds
  have F_law := fun_mk (st := s_law) l_law c_law k_law
  let Z : Fs := ⟨f_is_name, PySem.W.fnOf "is_name" "is_name" (defArgs s_is_name) (defBody s_is_name) (defScope s_is_name) .none kV_is_name dc_is_name pm_is_name an_is_name cd_is_name ct_is_name, f_is_register, PySem.W.fnOf "is_register" "is_register" (defArgs s_is_register) (defBody s_is_register) (defScope s_is_register) .none kV_is_register dc_is_register pm_is_register an_is_register cd_is_register ct_is_register, f_is_number, PySem.W.fnOf "is_number" "is_number" (defArgs s_is_number) (defBody s_is_number) (defScope s_is_number) .none kV_is_number dc_is_number pm_is_number an_is_number cd_is_number ct_is_number, f_is_code_row, PySem.W.fnOf "is_code_row" "is_code_row" (defArgs s_is_code_row) (defBody s_is_code_row) (defScope s_is_code_row) .none kV_is_code_row dc_is_code_row pm_is_code_row an_is_code_row cd_is_code_row ct_is_code_row, f_is_data_row, PySem.W.fnOf "is_data_row" "is_data_row" (defArgs s_is_data_row) (defBody s_is_data_row) (defScope s_is_data_row) .none kV_is_data_row dc_is_data_row pm_is_data_row an_is_data_row cd_is_data_row ct_is_data_row, f_is_closing, PySem.W.fnOf "is_closing" "is_closing" (defArgs s_is_closing) (defBody s_is_closing) (defScope s_is_closing) .none kV_is_closing dc_is_closing pm_is_closing an_is_closing cd_is_closing ct_is_closing, f_name_in, PySem.W.fnOf "name_in" "name_in" (defArgs s_name_in) (defBody s_name_in) (defScope s_name_in) .none kV_name_in dc_name_in pm_name_in an_name_in cd_name_in ct_name_in, f_word_of, PySem.W.fnOf "_word_of" "_word_of" (defArgs s_word_of) (defBody s_word_of) (defScope s_word_of) .none kV_word_of dc_word_of pm_word_of an_word_of cd_word_of ct_word_of, f_fit, PySem.W.fnOf "_fit" "_fit" (defArgs s_fit) (defBody s_fit) (defScope s_fit) .none kV_fit dc_fit pm_fit an_fit cd_fit ct_fit, f_fits, PySem.W.fnOf "_fits" "_fits" (defArgs s_fits) (defBody s_fits) (defScope s_fits) .none kV_fits dc_fits pm_fits an_fits cd_fits ct_fits, f_law_bag, PySem.W.fnOf "_law_bag" "_law_bag" (defArgs s_law_bag) (defBody s_law_bag) (defScope s_law_bag) .none kV_law_bag dc_law_bag pm_law_bag an_law_bag cd_law_bag ct_law_bag, f_law_draw, PySem.W.fnOf "_law_draw" "_law_draw" (defArgs s_law_draw) (defBody s_law_draw) (defScope s_law_draw) .none kV_law_draw dc_law_draw pm_law_draw an_law_draw cd_law_draw ct_law_draw, f_law_of, PySem.W.fnOf "_law_of" "_law_of" (defArgs s_law_of) (defBody s_law_of) (defScope s_law_of) .none kV_law_of dc_law_of pm_law_of an_law_of cd_law_of ct_law_of, f_law_same, PySem.W.fnOf "_law_same" "_law_same" (defArgs s_law_same) (defBody s_law_same) (defScope s_law_same) .none kV_law_same dc_law_same pm_law_same an_law_same cd_law_same ct_law_same, f_law_odd, PySem.W.fnOf "_law_odd" "_law_odd" (defArgs s_law_odd) (defBody s_law_odd) (defScope s_law_odd) .none kV_law_odd dc_law_odd pm_law_odd an_law_odd cd_law_odd ct_law_odd, f_law_titles, PySem.W.fnOf "_law_titles" "_law_titles" (defArgs s_law_titles) (defBody s_law_titles) (defScope s_law_titles) .none kV_law_titles dc_law_titles pm_law_titles an_law_titles cd_law_titles ct_law_titles, f_law_number, PySem.W.fnOf "_law_number" "_law_number" (defArgs s_law_number) (defBody s_law_number) (defScope s_law_number) .none kV_law_number dc_law_number pm_law_number an_law_number cd_law_number ct_law_number, f_law_r, PySem.W.fnOf "_law_r" "_law_r" (defArgs s_law_r) (defBody s_law_r) (defScope s_law_r) .none kV_law_r dc_law_r pm_law_r an_law_r cd_law_r ct_law_r, f_law_code_row, PySem.W.fnOf "_law_code_row" "_law_code_row" (defArgs s_law_code_row) (defBody s_law_code_row) (defScope s_law_code_row) .none kV_law_code_row dc_law_code_row pm_law_code_row an_law_code_row cd_law_code_row ct_law_code_row, f_law_last_row, PySem.W.fnOf "_law_last_row" "_law_last_row" (defArgs s_law_last_row) (defBody s_law_last_row) (defScope s_law_last_row) .none kV_law_last_row dc_law_last_row pm_law_last_row an_law_last_row cd_law_last_row ct_law_last_row, f_law_data_row, PySem.W.fnOf "_law_data_row" "_law_data_row" (defArgs s_law_data_row) (defBody s_law_data_row) (defScope s_law_data_row) .none kV_law_data_row dc_law_data_row pm_law_data_row an_law_data_row cd_law_data_row ct_law_data_row, f_law_is_title, PySem.W.fnOf "_law_is_title" "_law_is_title" (defArgs s_law_is_title) (defBody s_law_is_title) (defScope s_law_is_title) .none kV_law_is_title dc_law_is_title pm_law_is_title an_law_is_title cd_law_is_title ct_law_is_title, f_law_within, PySem.W.fnOf "_law_within" "_law_within" (defArgs s_law_within) (defBody s_law_within) (defScope s_law_within) .none kV_law_within dc_law_within pm_law_within an_law_within cd_law_within ct_law_within, f_law_code_so, PySem.W.fnOf "_law_code_so" "_law_code_so" (defArgs s_law_code_so) (defBody s_law_code_so) (defScope s_law_code_so) .none kV_law_code_so dc_law_code_so pm_law_code_so an_law_code_so cd_law_code_so ct_law_code_so, f_law_data_so, PySem.W.fnOf "_law_data_so" "_law_data_so" (defArgs s_law_data_so) (defBody s_law_data_so) (defScope s_law_data_so) .none kV_law_data_so dc_law_data_so pm_law_data_so an_law_data_so cd_law_data_so ct_law_data_so, f_law_bent_row, PySem.W.fnOf "_law_bent_row" "_law_bent_row" (defArgs s_law_bent_row) (defBody s_law_bent_row) (defScope s_law_bent_row) .none kV_law_bent_row dc_law_bent_row pm_law_bent_row an_law_bent_row cd_law_bent_row ct_law_bent_row, f_law_row_words, PySem.W.fnOf "_law_row_words" "_law_row_words" (defArgs s_law_row_words) (defBody s_law_row_words) (defScope s_law_row_words) .none kV_law_row_words dc_law_row_words pm_law_row_words an_law_row_words cd_law_row_words ct_law_row_words, f_law_bounds, PySem.W.fnOf "_law_bounds" "_law_bounds" (defArgs s_law_bounds) (defBody s_law_bounds) (defScope s_law_bounds) .none kV_law_bounds dc_law_bounds pm_law_bounds an_law_bounds cd_law_bounds ct_law_bounds, fa, PySem.W.fnOf "law" "law" (defArgs s_law) (defBody s_law) (defScope s_law) .none kV_law dc_law pm_law an_law cd_law ct_law, qe_CODE_ROWS, qz_CODE_ROWS, qe_DATA_ROWS, qz_DATA_ROWS, qe_BOUNDS, qz_BOUNDS, q_REGISTERS, q_CODE_ROWS, q_DATA_ROWS, q_BOUNDS, q_CLOSING, q_NAMING⟩
  have T : Txt K w mg Z := ⟨F_is_name,
    PySem.W.mg_of X G a_is_name,
    F_is_name.binds (ps := ["value"]) fun _ _ _ _ _ _ us hl => match us, hl with | [_], _ => rfl,
    F_is_register,
    PySem.W.mg_of X G a_is_register,
    F_is_register.binds (ps := ["value"]) fun _ _ _ _ _ _ us hl => match us, hl with | [_], _ => rfl,
    F_is_number,
    PySem.W.mg_of X G a_is_number,
    F_is_number.binds (ps := ["value", "least", "most"]) fun _ _ _ _ _ _ us hl => match us, hl with | [_, _, _], _ => rfl,
    F_is_code_row,
    PySem.W.mg_of X G a_is_code_row,
    F_is_code_row.binds (ps := ["value"]) fun _ _ _ _ _ _ us hl => match us, hl with | [_], _ => rfl,
    kbn_k_is_code_row_0_value F_is_code_row,
    F_is_data_row,
    PySem.W.mg_of X G a_is_data_row,
    F_is_data_row.binds (ps := ["value"]) fun _ _ _ _ _ _ us hl => match us, hl with | [_], _ => rfl,
    kbn_k_is_data_row_0_value F_is_data_row,
    F_is_closing,
    PySem.W.mg_of X G a_is_closing,
    F_is_closing.binds (ps := ["row"]) fun _ _ _ _ _ _ us hl => match us, hl with | [_], _ => rfl,
    kbn_k_is_closing_0_row F_is_closing,
    F_name_in,
    PySem.W.mg_of X G a_name_in,
    F_name_in.binds (ps := ["row"]) fun _ _ _ _ _ _ us hl => match us, hl with | [_], _ => rfl,
    kbn_k_name_in_0_row F_name_in,
    F_word_of,
    PySem.W.mg_of X G a_word_of,
    F_word_of.binds (ps := ["value"]) fun _ _ _ _ _ _ us hl => match us, hl with | [_], _ => rfl,
    F_fit,
    PySem.W.mg_of X G a_fit,
    F_fit.binds (ps := ["items", "kinds"]) fun _ _ _ _ _ _ us hl => match us, hl with | [_, _], _ => rfl,
    F_fits,
    PySem.W.mg_of X G a_fits,
    F_fits.binds (ps := ["item", "kind"]) fun _ _ _ _ _ _ us hl => match us, hl with | [_, _], _ => rfl,
    F_law_bag,
    PySem.W.mg_of X G a_law_bag,
    F_law_bag.binds (ps := ["_law_script"]) fun _ _ _ _ _ _ us hl => match us, hl with | [_], _ => rfl,
    F_law_draw,
    PySem.W.mg_of X G a_law_draw,
    F_law_draw.binds (ps := ["_law_bag_here", "_law_sides"]) fun _ _ _ _ _ _ us hl => match us, hl with | [_, _], _ => rfl,
    F_law_of,
    PySem.W.mg_of X G a_law_of,
    F_law_of.binds (ps := ["_law_bag_here", "_law_things"]) fun _ _ _ _ _ _ us hl => match us, hl with | [_, _], _ => rfl,
    F_law_same,
    PySem.W.mg_of X G a_law_same,
    F_law_same.binds (ps := ["_law_found", "_law_due"]) fun _ _ _ _ _ _ us hl => match us, hl with | [_, _], _ => rfl,
    F_law_odd,
    PySem.W.mg_of X G a_law_odd,
    F_law_odd.binds (ps := ["_law_bag_here", "_law_more"]) fun _ _ _ _ _ _ us hl => match us, hl with | [_, _], _ => rfl,
    F_law_titles,
    PySem.W.mg_of X G a_law_titles,
    F_law_titles.binds (ps := ["_law_bag_here", "_law_many"]) fun _ _ _ _ _ _ us hl => match us, hl with | [_, _], _ => rfl,
    F_law_number,
    PySem.W.mg_of X G a_law_number,
    F_law_number.binds (ps := ["_law_bag_here"]) fun _ _ _ _ _ _ us hl => match us, hl with | [_], _ => rfl,
    F_law_r,
    PySem.W.mg_of X G a_law_r,
    F_law_r.binds (ps := ["_law_bag_here"]) fun _ _ _ _ _ _ us hl => match us, hl with | [_], _ => rfl,
    F_law_code_row,
    PySem.W.mg_of X G a_law_code_row,
    F_law_code_row.binds (ps := ["_law_bag_here", "_law_titles_here"]) fun _ _ _ _ _ _ us hl => match us, hl with | [_, _], _ => rfl,
    F_law_last_row,
    PySem.W.mg_of X G a_law_last_row,
    F_law_last_row.binds (ps := ["_law_bag_here", "_law_titles_here"]) fun _ _ _ _ _ _ us hl => match us, hl with | [_, _], _ => rfl,
    F_law_data_row,
    PySem.W.mg_of X G a_law_data_row,
    F_law_data_row.binds (ps := ["_law_bag_here", "_law_titles_here"]) fun _ _ _ _ _ _ us hl => match us, hl with | [_, _], _ => rfl,
    F_law_is_title,
    PySem.W.mg_of X G a_law_is_title,
    F_law_is_title.binds (ps := ["_law_thing"]) fun _ _ _ _ _ _ us hl => match us, hl with | [_], _ => rfl,
    F_law_within,
    PySem.W.mg_of X G a_law_within,
    F_law_within.binds (ps := ["_law_thing", "_law_low_y", "_law_high_y"]) fun _ _ _ _ _ _ us hl => match us, hl with | [_, _, _], _ => rfl,
    F_law_code_so,
    PySem.W.mg_of X G a_law_code_so,
    F_law_code_so.binds (ps := ["_law_thing"]) fun _ _ _ _ _ _ us hl => match us, hl with | [_], _ => rfl,
    F_law_data_so,
    PySem.W.mg_of X G a_law_data_so,
    F_law_data_so.binds (ps := ["_law_thing"]) fun _ _ _ _ _ _ us hl => match us, hl with | [_], _ => rfl,
    F_law_bent_row,
    PySem.W.mg_of X G a_law_bent_row,
    F_law_bent_row.binds (ps := ["_law_bag_here", "_law_one", "_law_titles_here"]) fun _ _ _ _ _ _ us hl => match us, hl with | [_, _, _], _ => rfl,
    F_law_row_words,
    PySem.W.mg_of X G a_law_row_words,
    F_law_row_words.binds (ps := []) fun _ _ _ _ _ _ us hl => match us, hl with | [], _ => rfl,
    F_law_bounds,
    PySem.W.mg_of X G a_law_bounds,
    F_law_bounds.binds (ps := []) fun _ _ _ _ _ _ us hl => match us, hl with | [], _ => rfl,
    F_law,
    PySem.W.mg_of X G a_law,
    F_law.binds (ps := ["_law_script"]) fun _ _ _ _ _ _ us hl => match us, hl with | [_], _ => rfl,
    PySem.W.mg_none_of X G n_abs,
    PySem.W.mg_none_of X G n_all,
    PySem.W.mg_none_of X G n_bool,
    PySem.W.mg_none_of X G n_int,
    PySem.W.mg_none_of X G n_isinstance,
    PySem.W.mg_none_of X G n_len,
    PySem.W.mg_none_of X G n_list,
    PySem.W.mg_none_of X G n_range,
    PySem.W.mg_none_of X G n_str,
    PySem.W.mg_none_of X G n_tuple,
    PySem.W.mg_none_of X G n_zip,
    ⟨_, PySem.W.mg_of X G g_MOST_LETTERS⟩,
    PySem.W.mg_of X G g_REGISTERS,
    fun _ => .inr ⟨_, _, _, v_REGISTERS, rfl, rfl, (Nat.le_trans (Nat.le_of_eq (Array.length_toList.symm.trans w_REGISTERS.length.symm)) (by show 3 ≤ sizeLine; decide)), w_REGISTERS⟩,
    ⟨_, v_REGISTERS, rfl, rfl⟩,
    PySem.W.mg_of X G g_CODE_ROWS,
    PySem.W.mg_of X G g_DATA_ROWS,
    PySem.W.mg_of X G g_BOUNDS,
    PySem.W.mg_of X G g_CLOSING,
    fun _ => .inr ⟨_, _, _, v_CLOSING, rfl, rfl, (Nat.le_trans (Nat.le_of_eq (Array.length_toList.symm.trans w_CLOSING.length.symm)) (by show 3 ≤ sizeLine; decide)), w_CLOSING⟩,
    ⟨_, v_CLOSING, rfl, rfl⟩,
    PySem.W.mg_of X G g_NAMING,
    fun _ => .inr ⟨_, _, _, v_NAMING, rfl, rfl, (Nat.le_trans (Nat.le_of_eq (Array.length_toList.symm.trans w_NAMING.length.symm)) (by show 5 ≤ sizeLine; decide)), w_NAMING⟩,
    ⟨_, v_NAMING, rfl, rfl⟩,
    ⟨dl_CODE_ROWS, dk_CODE_ROWS, dw_CODE_ROWS⟩,
    fun z => ⟨_, nsIn_of dl_CODE_ROWS pe_CODE_ROWS z, find_rel (show Paired (fun (p : Str × List V) (q : Str × Value) => p.1 = q.1 ∧ RelTu K p.2 q.2) tb_CODE_ROWS [("put", Value.ref t_CODE_ROWS_put), ("name", Value.ref t_CODE_ROWS_name), ("add", Value.ref t_CODE_ROWS_add), ("take", Value.ref t_CODE_ROWS_take), ("load", Value.ref t_CODE_ROWS_load), ("store", Value.ref t_CODE_ROWS_store), ("jump", Value.ref t_CODE_ROWS_jump), ("ifzero", Value.ref t_CODE_ROWS_ifzero), ("call", Value.ref t_CODE_ROWS_call), ("callby", Value.ref t_CODE_ROWS_callby), ("back", Value.ref t_CODE_ROWS_back), ("out", Value.ref t_CODE_ROWS_out), ("halt", Value.ref t_CODE_ROWS_halt), ("room", Value.ref t_CODE_ROWS_room)] from (.cons ⟨rfl, ⟨t_CODE_ROWS_put, rfl, fun _ => .inr ⟨_, _, _, y_CODE_ROWS_put, rfl, rfl, (Nat.le_trans (Nat.le_of_eq (Array.length_toList.symm.trans u_CODE_ROWS_put.length.symm)) (by show 2 ≤ sizeLine; decide)), u_CODE_ROWS_put⟩⟩⟩ (.cons ⟨rfl, ⟨t_CODE_ROWS_name, rfl, fun _ => .inr ⟨_, _, _, y_CODE_ROWS_name, rfl, rfl, (Nat.le_trans (Nat.le_of_eq (Array.length_toList.symm.trans u_CODE_ROWS_name.length.symm)) (by show 2 ≤ sizeLine; decide)), u_CODE_ROWS_name⟩⟩⟩ (.cons ⟨rfl, ⟨t_CODE_ROWS_add, rfl, fun _ => .inr ⟨_, _, _, y_CODE_ROWS_add, rfl, rfl, (Nat.le_trans (Nat.le_of_eq (Array.length_toList.symm.trans u_CODE_ROWS_add.length.symm)) (by show 2 ≤ sizeLine; decide)), u_CODE_ROWS_add⟩⟩⟩ (.cons ⟨rfl, ⟨t_CODE_ROWS_take, rfl, fun _ => .inr ⟨_, _, _, y_CODE_ROWS_take, rfl, rfl, (Nat.le_trans (Nat.le_of_eq (Array.length_toList.symm.trans u_CODE_ROWS_take.length.symm)) (by show 2 ≤ sizeLine; decide)), u_CODE_ROWS_take⟩⟩⟩ (.cons ⟨rfl, ⟨t_CODE_ROWS_load, rfl, fun _ => .inr ⟨_, _, _, y_CODE_ROWS_load, rfl, rfl, (Nat.le_trans (Nat.le_of_eq (Array.length_toList.symm.trans u_CODE_ROWS_load.length.symm)) (by show 3 ≤ sizeLine; decide)), u_CODE_ROWS_load⟩⟩⟩ (.cons ⟨rfl, ⟨t_CODE_ROWS_store, rfl, fun _ => .inr ⟨_, _, _, y_CODE_ROWS_store, rfl, rfl, (Nat.le_trans (Nat.le_of_eq (Array.length_toList.symm.trans u_CODE_ROWS_store.length.symm)) (by show 3 ≤ sizeLine; decide)), u_CODE_ROWS_store⟩⟩⟩ (.cons ⟨rfl, ⟨t_CODE_ROWS_jump, rfl, fun _ => .inr ⟨_, _, _, y_CODE_ROWS_jump, rfl, rfl, (Nat.le_trans (Nat.le_of_eq (Array.length_toList.symm.trans u_CODE_ROWS_jump.length.symm)) (by show 1 ≤ sizeLine; decide)), u_CODE_ROWS_jump⟩⟩⟩ (.cons ⟨rfl, ⟨t_CODE_ROWS_ifzero, rfl, fun _ => .inr ⟨_, _, _, y_CODE_ROWS_ifzero, rfl, rfl, (Nat.le_trans (Nat.le_of_eq (Array.length_toList.symm.trans u_CODE_ROWS_ifzero.length.symm)) (by show 2 ≤ sizeLine; decide)), u_CODE_ROWS_ifzero⟩⟩⟩ (.cons ⟨rfl, ⟨t_CODE_ROWS_call, rfl, fun _ => .inr ⟨_, _, _, y_CODE_ROWS_call, rfl, rfl, (Nat.le_trans (Nat.le_of_eq (Array.length_toList.symm.trans u_CODE_ROWS_call.length.symm)) (by show 1 ≤ sizeLine; decide)), u_CODE_ROWS_call⟩⟩⟩ (.cons ⟨rfl, ⟨t_CODE_ROWS_callby, rfl, fun _ => .inr ⟨_, _, _, y_CODE_ROWS_callby, rfl, rfl, (Nat.le_trans (Nat.le_of_eq (Array.length_toList.symm.trans u_CODE_ROWS_callby.length.symm)) (by show 1 ≤ sizeLine; decide)), u_CODE_ROWS_callby⟩⟩⟩ (.cons ⟨rfl, ⟨t_CODE_ROWS_back, rfl, fun _ => .inr ⟨_, _, _, y_CODE_ROWS_back, rfl, rfl, (Nat.le_trans (Nat.le_of_eq (Array.length_toList.symm.trans u_CODE_ROWS_back.length.symm)) (by show 0 ≤ sizeLine; decide)), u_CODE_ROWS_back⟩⟩⟩ (.cons ⟨rfl, ⟨t_CODE_ROWS_out, rfl, fun _ => .inr ⟨_, _, _, y_CODE_ROWS_out, rfl, rfl, (Nat.le_trans (Nat.le_of_eq (Array.length_toList.symm.trans u_CODE_ROWS_out.length.symm)) (by show 1 ≤ sizeLine; decide)), u_CODE_ROWS_out⟩⟩⟩ (.cons ⟨rfl, ⟨t_CODE_ROWS_halt, rfl, fun _ => .inr ⟨_, _, _, y_CODE_ROWS_halt, rfl, rfl, (Nat.le_trans (Nat.le_of_eq (Array.length_toList.symm.trans u_CODE_ROWS_halt.length.symm)) (by show 0 ≤ sizeLine; decide)), u_CODE_ROWS_halt⟩⟩⟩ (.cons ⟨rfl, ⟨t_CODE_ROWS_room, rfl, fun _ => .inr ⟨_, _, _, y_CODE_ROWS_room, rfl, rfl, (Nat.le_trans (Nat.le_of_eq (Array.length_toList.symm.trans u_CODE_ROWS_room.length.symm)) (by show 1 ≤ sizeLine; decide)), u_CODE_ROWS_room⟩⟩⟩ .nil))))))))))))))) z⟩,
    ⟨dl_DATA_ROWS, dk_DATA_ROWS, dw_DATA_ROWS⟩,
    fun z => ⟨_, nsIn_of dl_DATA_ROWS pe_DATA_ROWS z, find_rel (show Paired (fun (p : Str × List V) (q : Str × Value) => p.1 = q.1 ∧ RelTu K p.2 q.2) tb_DATA_ROWS [("word", Value.ref t_DATA_ROWS_word), ("address", Value.ref t_DATA_ROWS_address), ("room", Value.ref t_DATA_ROWS_room)] from (.cons ⟨rfl, ⟨t_DATA_ROWS_word, rfl, fun _ => .inr ⟨_, _, _, y_DATA_ROWS_word, rfl, rfl, (Nat.le_trans (Nat.le_of_eq (Array.length_toList.symm.trans u_DATA_ROWS_word.length.symm)) (by show 1 ≤ sizeLine; decide)), u_DATA_ROWS_word⟩⟩⟩ (.cons ⟨rfl, ⟨t_DATA_ROWS_address, rfl, fun _ => .inr ⟨_, _, _, y_DATA_ROWS_address, rfl, rfl, (Nat.le_trans (Nat.le_of_eq (Array.length_toList.symm.trans u_DATA_ROWS_address.length.symm)) (by show 1 ≤ sizeLine; decide)), u_DATA_ROWS_address⟩⟩⟩ (.cons ⟨rfl, ⟨t_DATA_ROWS_room, rfl, fun _ => .inr ⟨_, _, _, y_DATA_ROWS_room, rfl, rfl, (Nat.le_trans (Nat.le_of_eq (Array.length_toList.symm.trans u_DATA_ROWS_room.length.symm)) (by show 1 ≤ sizeLine; decide)), u_DATA_ROWS_room⟩⟩⟩ .nil)))) z⟩,
    ⟨dl_BOUNDS, dk_BOUNDS, dw_BOUNDS⟩,
    fun z => ⟨_, nsIn_of dl_BOUNDS pe_BOUNDS z, find_rel (show Paired (fun (p : Str × List V) (q : Str × Value) => p.1 = q.1 ∧ RelTu K p.2 q.2) tb_BOUNDS [("n", Value.ref t_BOUNDS_n), ("d", Value.ref t_BOUNDS_d), ("k", Value.ref t_BOUNDS_k)] from (.cons ⟨rfl, ⟨t_BOUNDS_n, rfl, fun _ => .inr ⟨_, _, _, y_BOUNDS_n, rfl, rfl, (Nat.le_trans (Nat.le_of_eq (Array.length_toList.symm.trans u_BOUNDS_n.length.symm)) (by show 2 ≤ sizeLine; decide)), u_BOUNDS_n⟩⟩⟩ (.cons ⟨rfl, ⟨t_BOUNDS_d, rfl, fun _ => .inr ⟨_, _, _, y_BOUNDS_d, rfl, rfl, (Nat.le_trans (Nat.le_of_eq (Array.length_toList.symm.trans u_BOUNDS_d.length.symm)) (by show 2 ≤ sizeLine; decide)), u_BOUNDS_d⟩⟩⟩ (.cons ⟨rfl, ⟨t_BOUNDS_k, rfl, fun _ => .inr ⟨_, _, _, y_BOUNDS_k, rfl, rfl, (Nat.le_trans (Nat.le_of_eq (Array.length_toList.symm.trans u_BOUNDS_k.length.symm)) (by show 2 ≤ sizeLine; decide)), u_BOUNDS_k⟩⟩⟩ .nil)))) z⟩⟩
  exact ⟨Z.d_law, fun s v => .of_eq rfl, fun base _ _ => ok_law T⟩
end Kk
open PySem PySem.W PyProof.Rows
set_option maxRecDepth 100000 in
set_option maxHeartbeats 0 in
theorem PySem.Challenge.cw_leastimage_k02_rows_judged_holds : PySem.Challenge.rw_leastimage_k02_rows_judged.Holds := by
  w_on; o_law; k_head; (case hw => w_witness2)
  k_fill
  refine L2.walk_of (l := PySem.Challenge.rw_leastimage_k02_rows_judged) (n := 63) (k := 6) (x := "_law_script") (CX := fun _ => L2.CX0) (sp := fun w => Kk.sp_law _) rfl (by decide) rfl ⟨rfl, by decide, by decide⟩ (fun w h Y => PySem.W.kIn_of Y) ?F (fun _ _ a ns hl _ hS => ⟨a, ns, rfl, hS, hl, fun _ => rfl⟩) (fun _ _ _ _ _ h => h)
  case F =>
    intro w mg fa h KX G hmg
    refine' Kk.all_mk KX G hmg ?a_is_name ?l_is_name ?c_is_name ?k_is_name ?a_is_register ?l_is_register ?c_is_register ?k_is_register ?a_is_number ?l_is_number ?c_is_number ?k_is_number ?a_is_code_row ?l_is_code_row ?c_is_code_row ?k_is_code_row ?a_is_data_row ?l_is_data_row ?c_is_data_row ?k_is_data_row ?a_is_closing ?l_is_closing ?c_is_closing ?k_is_closing ?a_name_in ?l_name_in ?c_name_in ?k_name_in ?a_word_of ?l_word_of ?c_word_of ?k_word_of ?a_fit ?l_fit ?c_fit ?k_fit ?a_fits ?l_fits ?c_fits ?k_fits ?a_law_bag ?l_law_bag ?c_law_bag ?k_law_bag ?a_law_draw ?l_law_draw ?c_law_draw ?k_law_draw ?a_law_of ?l_law_of ?c_law_of ?k_law_of ?a_law_same ?l_law_same ?c_law_same ?k_law_same ?a_law_odd ?l_law_odd ?c_law_odd ?k_law_odd ?a_law_titles ?l_law_titles ?c_law_titles ?k_law_titles ?a_law_number ?l_law_number ?c_law_number ?k_law_number ?a_law_r ?l_law_r ?c_law_r ?k_law_r ?a_law_code_row ?l_law_code_row ?c_law_code_row ?k_law_code_row ?a_law_last_row ?l_law_last_row ?c_law_last_row ?k_law_last_row ?a_law_data_row ?l_law_data_row ?c_law_data_row ?k_law_data_row ?a_law_is_title ?l_law_is_title ?c_law_is_title ?k_law_is_title ?a_law_within ?l_law_within ?c_law_within ?k_law_within ?a_law_code_so ?l_law_code_so ?c_law_code_so ?k_law_code_so ?a_law_data_so ?l_law_data_so ?c_law_data_so ?k_law_data_so ?a_law_bent_row ?l_law_bent_row ?c_law_bent_row ?k_law_bent_row ?a_law_row_words ?l_law_row_words ?c_law_row_words ?k_law_row_words ?a_law_bounds ?l_law_bounds ?c_law_bounds ?k_law_bounds ?a_law ?l_law ?c_law ?k_law ?n_abs ?n_all ?n_bool ?n_int ?n_isinstance ?n_len ?n_list ?n_range ?n_str ?n_tuple ?n_zip ?g_MOST_LETTERS ?g_REGISTERS ?v_REGISTERS ?w_REGISTERS ?g_CODE_ROWS ?g_DATA_ROWS ?g_BOUNDS ?g_CLOSING ?v_CLOSING ?w_CLOSING ?g_NAMING ?v_NAMING ?w_NAMING ?dl_CODE_ROWS ?dk_CODE_ROWS ?dw_CODE_ROWS ?pe_CODE_ROWS ?y_CODE_ROWS_put ?u_CODE_ROWS_put ?y_CODE_ROWS_name ?u_CODE_ROWS_name ?y_CODE_ROWS_add ?u_CODE_ROWS_add ?y_CODE_ROWS_take ?u_CODE_ROWS_take ?y_CODE_ROWS_load ?u_CODE_ROWS_load ?y_CODE_ROWS_store ?u_CODE_ROWS_store ?y_CODE_ROWS_jump ?u_CODE_ROWS_jump ?y_CODE_ROWS_ifzero ?u_CODE_ROWS_ifzero ?y_CODE_ROWS_call ?u_CODE_ROWS_call ?y_CODE_ROWS_callby ?u_CODE_ROWS_callby ?y_CODE_ROWS_back ?u_CODE_ROWS_back ?y_CODE_ROWS_out ?u_CODE_ROWS_out ?y_CODE_ROWS_halt ?u_CODE_ROWS_halt ?y_CODE_ROWS_room ?u_CODE_ROWS_room ?dl_DATA_ROWS ?dk_DATA_ROWS ?dw_DATA_ROWS ?pe_DATA_ROWS ?y_DATA_ROWS_word ?u_DATA_ROWS_word ?y_DATA_ROWS_address ?u_DATA_ROWS_address ?y_DATA_ROWS_room ?u_DATA_ROWS_room ?dl_BOUNDS ?dk_BOUNDS ?dw_BOUNDS ?pe_BOUNDS ?y_BOUNDS_n ?u_BOUNDS_n ?y_BOUNDS_d ?u_BOUNDS_d ?y_BOUNDS_k ?u_BOUNDS_k
    (case a_is_name => k_is)
    (case l_is_name => k_is)
    (case c_is_name => k_is)
    (case k_is_name => k_is)
    (case a_is_register => k_is)
    (case l_is_register => k_is)
    (case c_is_register => k_is)
    (case k_is_register => k_is)
    (case a_is_number => k_is)
    (case l_is_number => k_is)
    (case c_is_number => k_is)
    (case k_is_number => k_is)
    (case a_is_code_row => k_is)
    (case l_is_code_row => k_is)
    (case c_is_code_row => k_is)
    (case k_is_code_row => k_is)
    (case a_is_data_row => k_is)
    (case l_is_data_row => k_is)
    (case c_is_data_row => k_is)
    (case k_is_data_row => k_is)
    (case a_is_closing => k_is)
    (case l_is_closing => k_is)
    (case c_is_closing => k_is)
    (case k_is_closing => k_is)
    (case a_name_in => k_is)
    (case l_name_in => k_is)
    (case c_name_in => k_is)
    (case k_name_in => k_is)
    (case a_word_of => k_is)
    (case l_word_of => k_is)
    (case c_word_of => k_is)
    (case k_word_of => k_is)
    (case a_fit => k_is)
    (case l_fit => k_is)
    (case c_fit => k_is)
    (case k_fit => k_is)
    (case a_fits => k_is)
    (case l_fits => k_is)
    (case c_fits => k_is)
    (case k_fits => k_is)
    (case a_law_bag => k_is)
    (case l_law_bag => k_is)
    (case c_law_bag => k_is)
    (case k_law_bag => k_is)
    (case a_law_draw => k_is)
    (case l_law_draw => k_is)
    (case c_law_draw => k_is)
    (case k_law_draw => k_is)
    (case a_law_of => k_is)
    (case l_law_of => k_is)
    (case c_law_of => k_is)
    (case k_law_of => k_is)
    (case a_law_same => k_is)
    (case l_law_same => k_is)
    (case c_law_same => k_is)
    (case k_law_same => k_is)
    (case a_law_odd => k_is)
    (case l_law_odd => k_is)
    (case c_law_odd => k_is)
    (case k_law_odd => k_is)
    (case a_law_titles => k_is)
    (case l_law_titles => k_is)
    (case c_law_titles => k_is)
    (case k_law_titles => k_is)
    (case a_law_number => k_is)
    (case l_law_number => k_is)
    (case c_law_number => k_is)
    (case k_law_number => k_is)
    (case a_law_r => k_is)
    (case l_law_r => k_is)
    (case c_law_r => k_is)
    (case k_law_r => k_is)
    (case a_law_code_row => k_is)
    (case l_law_code_row => k_is)
    (case c_law_code_row => k_is)
    (case k_law_code_row => k_is)
    (case a_law_last_row => k_is)
    (case l_law_last_row => k_is)
    (case c_law_last_row => k_is)
    (case k_law_last_row => k_is)
    (case a_law_data_row => k_is)
    (case l_law_data_row => k_is)
    (case c_law_data_row => k_is)
    (case k_law_data_row => k_is)
    (case a_law_is_title => k_is)
    (case l_law_is_title => k_is)
    (case c_law_is_title => k_is)
    (case k_law_is_title => k_is)
    (case a_law_within => k_is)
    (case l_law_within => k_is)
    (case c_law_within => k_is)
    (case k_law_within => k_is)
    (case a_law_code_so => k_is)
    (case l_law_code_so => k_is)
    (case c_law_code_so => k_is)
    (case k_law_code_so => k_is)
    (case a_law_data_so => k_is)
    (case l_law_data_so => k_is)
    (case c_law_data_so => k_is)
    (case k_law_data_so => k_is)
    (case a_law_bent_row => k_is)
    (case l_law_bent_row => k_is)
    (case c_law_bent_row => k_is)
    (case k_law_bent_row => k_is)
    (case a_law_row_words => k_is)
    (case l_law_row_words => k_is)
    (case c_law_row_words => k_is)
    (case k_law_row_words => k_is)
    (case a_law_bounds => k_is)
    (case l_law_bounds => k_is)
    (case c_law_bounds => k_is)
    (case k_law_bounds => k_is)
    (case a_law => k_is)
    (case l_law => k_is)
    (case c_law => k_is)
    (case k_law => k_is)
    (case n_abs => k_is)
    (case n_all => k_is)
    (case n_bool => k_is)
    (case n_int => k_is)
    (case n_isinstance => k_is)
    (case n_len => k_is)
    (case n_list => k_is)
    (case n_range => k_is)
    (case n_str => k_is)
    (case n_tuple => k_is)
    (case n_zip => k_is)
    (case g_MOST_LETTERS => k_is)
    (case g_REGISTERS => k_is)
    (case v_REGISTERS => k_is)
    (case w_REGISTERS => exact (.cons ⟨_, rfl⟩ (.cons ⟨_, rfl⟩ (.cons ⟨_, rfl⟩ .nil))))
    (case g_CODE_ROWS => k_is)
    (case g_DATA_ROWS => k_is)
    (case g_BOUNDS => k_is)
    (case g_CLOSING => k_is)
    (case v_CLOSING => k_is)
    (case w_CLOSING => exact (.cons ⟨_, rfl⟩ (.cons ⟨_, rfl⟩ (.cons ⟨_, rfl⟩ .nil))))
    (case g_NAMING => k_is)
    (case v_NAMING => k_is)
    (case w_NAMING => exact (.cons ⟨_, rfl⟩ (.cons ⟨_, rfl⟩ (.cons ⟨_, rfl⟩ (.cons ⟨_, rfl⟩ (.cons ⟨_, rfl⟩ .nil))))))
    (case dl_CODE_ROWS => k_is)
    (case dk_CODE_ROWS => repeat (first | exact trivial | refine ⟨⟨_, _, rfl, rfl⟩, ?_⟩))
    (case dw_CODE_ROWS => first | rfl | decide +kernel)
    (case pe_CODE_ROWS => exact (.cons ⟨⟨_, rfl⟩, rfl⟩ (.cons ⟨⟨_, rfl⟩, rfl⟩ (.cons ⟨⟨_, rfl⟩, rfl⟩ (.cons ⟨⟨_, rfl⟩, rfl⟩ (.cons ⟨⟨_, rfl⟩, rfl⟩ (.cons ⟨⟨_, rfl⟩, rfl⟩ (.cons ⟨⟨_, rfl⟩, rfl⟩ (.cons ⟨⟨_, rfl⟩, rfl⟩ (.cons ⟨⟨_, rfl⟩, rfl⟩ (.cons ⟨⟨_, rfl⟩, rfl⟩ (.cons ⟨⟨_, rfl⟩, rfl⟩ (.cons ⟨⟨_, rfl⟩, rfl⟩ (.cons ⟨⟨_, rfl⟩, rfl⟩ (.cons ⟨⟨_, rfl⟩, rfl⟩ .nil)))))))))))))))
    (case y_CODE_ROWS_put => k_is)
    (case u_CODE_ROWS_put => exact (.cons ⟨_, rfl⟩ (.cons ⟨_, rfl⟩ .nil)))
    (case y_CODE_ROWS_name => k_is)
    (case u_CODE_ROWS_name => exact (.cons ⟨_, rfl⟩ (.cons ⟨_, rfl⟩ .nil)))
    (case y_CODE_ROWS_add => k_is)
    (case u_CODE_ROWS_add => exact (.cons ⟨_, rfl⟩ (.cons ⟨_, rfl⟩ .nil)))
    (case y_CODE_ROWS_take => k_is)
    (case u_CODE_ROWS_take => exact (.cons ⟨_, rfl⟩ (.cons ⟨_, rfl⟩ .nil)))
    (case y_CODE_ROWS_load => k_is)
    (case u_CODE_ROWS_load => exact (.cons ⟨_, rfl⟩ (.cons ⟨_, rfl⟩ (.cons ⟨_, rfl⟩ .nil))))
    (case y_CODE_ROWS_store => k_is)
    (case u_CODE_ROWS_store => exact (.cons ⟨_, rfl⟩ (.cons ⟨_, rfl⟩ (.cons ⟨_, rfl⟩ .nil))))
    (case y_CODE_ROWS_jump => k_is)
    (case u_CODE_ROWS_jump => exact (.cons ⟨_, rfl⟩ .nil))
    (case y_CODE_ROWS_ifzero => k_is)
    (case u_CODE_ROWS_ifzero => exact (.cons ⟨_, rfl⟩ (.cons ⟨_, rfl⟩ .nil)))
    (case y_CODE_ROWS_call => k_is)
    (case u_CODE_ROWS_call => exact (.cons ⟨_, rfl⟩ .nil))
    (case y_CODE_ROWS_callby => k_is)
    (case u_CODE_ROWS_callby => exact (.cons ⟨_, rfl⟩ .nil))
    (case y_CODE_ROWS_back => k_is)
    (case u_CODE_ROWS_back => exact .nil)
    (case y_CODE_ROWS_out => k_is)
    (case u_CODE_ROWS_out => exact (.cons ⟨_, rfl⟩ .nil))
    (case y_CODE_ROWS_halt => k_is)
    (case u_CODE_ROWS_halt => exact .nil)
    (case y_CODE_ROWS_room => k_is)
    (case u_CODE_ROWS_room => exact (.cons ⟨_, rfl⟩ .nil))
    (case dl_DATA_ROWS => k_is)
    (case dk_DATA_ROWS => repeat (first | exact trivial | refine ⟨⟨_, _, rfl, rfl⟩, ?_⟩))
    (case dw_DATA_ROWS => first | rfl | decide +kernel)
    (case pe_DATA_ROWS => exact (.cons ⟨⟨_, rfl⟩, rfl⟩ (.cons ⟨⟨_, rfl⟩, rfl⟩ (.cons ⟨⟨_, rfl⟩, rfl⟩ .nil))))
    (case y_DATA_ROWS_word => k_is)
    (case u_DATA_ROWS_word => exact (.cons ⟨_, rfl⟩ .nil))
    (case y_DATA_ROWS_address => k_is)
    (case u_DATA_ROWS_address => exact (.cons ⟨_, rfl⟩ .nil))
    (case y_DATA_ROWS_room => k_is)
    (case u_DATA_ROWS_room => exact (.cons ⟨_, rfl⟩ .nil))
    (case dl_BOUNDS => k_is)
    (case dk_BOUNDS => repeat (first | exact trivial | refine ⟨⟨_, _, rfl, rfl⟩, ?_⟩))
    (case dw_BOUNDS => first | rfl | decide +kernel)
    (case pe_BOUNDS => exact (.cons ⟨⟨_, rfl⟩, rfl⟩ (.cons ⟨⟨_, rfl⟩, rfl⟩ (.cons ⟨⟨_, rfl⟩, rfl⟩ .nil))))
    (case y_BOUNDS_n => k_is)
    (case u_BOUNDS_n => exact (.cons ⟨_, rfl⟩ (.cons ⟨_, rfl⟩ .nil)))
    (case y_BOUNDS_d => k_is)
    (case u_BOUNDS_d => exact (.cons ⟨_, rfl⟩ (.cons ⟨_, rfl⟩ .nil)))
    (case y_BOUNDS_k => k_is)
    (case u_BOUNDS_k => exact (.cons ⟨_, rfl⟩ (.cons ⟨_, rfl⟩ .nil)))

