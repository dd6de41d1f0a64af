import PyProof.Rows.All
import Wide.All
import OpenK.AllK
import Wide.FinOn
import HandS.ForMost
import HandS.Walk
import HandS.IsInst
import HandS.Zip
import HandS.Style
import HandS.Codes
import HandS.Defaults
import HandS.Evl
import HandS.More
import HandS.Strs
import HandS.FStr
import HandS.MakeKw
import HandS.MakeKwOnly
import HandS.OwnEq
import HandS.Property
import HandS.Star
import HandS.RaiseMore
import HandS.StrMore
import HandS.Text
import KE.GoesEnum
import KE.GoesMore
import KE.RegKIsAll
import KE.IntTextText
import KE.KIntText
import KE.OsScanText
import PySem.Challenge.RW_leastimage_k52_values_added_and_taken
set_option Elab.async false
set_option maxRecDepth 100000
set_option maxHeartbeats 4000000
set_option linter.all false
namespace Kk
open PySem L2 PyProof.Rows
/-! ### the text by places, what the top has written -/
/-- a table of the text: the first entry of a word -/
def findT {α : Type} (l : List (Str × α)) (z : Str) : Option α := (l.find? fun p => decide (p.1 = z)).map (·.2)
def RelOpt {α : Type} (R : α → Value → Prop) : Option α → Option Value → Prop
  | some x, some u => R x u
  | none, none => True
  | _, _ => False
def RelTu (K : PySem.W.Frag) (xs : List V) (u : Value) : Prop := ∃ t, u = .ref t ∧ ∀ H : Hp, SqT K H t xs
theorem find_rel {α : Type} {R : α → Value → Prop} : ∀ {l : List (Str × α)} {m : List (Str × Value)}, Paired (fun (p : Str × α) (q : Str × Value) => p.1 = q.1 ∧ R p.2 q.2) l m → ∀ z, RelOpt R (findT l z) (findT m z)
  | _, _, .nil, _ => trivial
  | p :: l, q :: m, .cons r t, z => by
    unfold findT
    rw [List.find?_cons, List.find?_cons, ← r.1]
    cases decide (p.1 = z) with
    | true => exact r.2
    | false => exact find_rel t z
theorem nsIn_of {K : PySem.W.Frag} {c : Addr} {ty : Value} {dd : Option Addr} {es : Array DictEntry} {n : Nat} {sl : Array (Option Value)} (h : K.lookup c = some ⟨ty, dd, .dict es n, sl⟩) {L : List (Str × Value)}
    (e : Paired (fun (d : DictEntry) (p : Str × Value) => (∃ t, d.key = .str p.1 t) ∧ d.val = p.2) es.toList L) (z : Str) : PySem.W.nsIn K c z = some (findT L z) := by
  unfold PySem.W.nsIn
  rw [h]
  dsimp only
  have k : ∀ (l : List DictEntry) (L : List (Str × Value)), Paired (fun (d : DictEntry) (p : Str × Value) => (∃ t, d.key = .str p.1 t) ∧ d.val = p.2) l L → (l.find? (·.key.isStr z)).map (·.val) = findT L z ∧ l.any (·.refKey) = false := by
    intro l L e
    induction e with
    | nil => exact ⟨rfl, rfl⟩
    | @cons d p l L r _ ih =>
      obtain ⟨⟨t, hk⟩, hv⟩ := r
      have e1 : d.key.isStr z = decide (p.1 = z) := by
        rw [hk]
        show (p.1 == z) = decide (p.1 = z)
        rw [Bool.eq_iff_iff]
        simp
      have e2 : d.refKey = false := by
        unfold DictEntry.refKey
        rw [hk]
      refine ⟨?_, by rw [List.any_cons, e2, ih.2]; rfl⟩
      unfold findT at ih ⊢
      rw [List.find?_cons, List.find?_cons, e1]
      cases decide (p.1 = z) with
      | true => exact congrArg some hv
      | false => exact ih.1
  obtain ⟨k1, k2⟩ := k _ _ e
  cases q : es.toList.find? (·.key.isStr z) with
  | some d =>
    rw [q] at k1
    rw [← k1]
    rfl
  | none =>
    rw [q] at k1
    rw [← k1]
    simp [k2]
def top (i : Nat) : Stmt := PySem.Challenge.pw_leastimage_k52_values_added_and_taken.main.body.getD i (.Pass ⟨0, 0, 0, 0⟩)
abbrev s_is_word : Stmt := top 2
abbrev N_is_word : List Str := ["value"]
theorem sc_is_word : FnScope N_is_word ["value"] (defScope s_is_word) := ⟨rfl, rfl, rfl, by decide +kernel, rfl, by decide +kernel, by decide +kernel⟩
abbrev s_is_number : Stmt := top 3
abbrev N_is_number : List Str := ["value", "least", "most"]
theorem sc_is_number : FnScope N_is_number ["value", "least", "most"] (defScope s_is_number) := ⟨rfl, rfl, rfl, by decide +kernel, rfl, by decide +kernel, by decide +kernel⟩
abbrev s_is_strings : Stmt := top 5
abbrev N_is_strings : List Str := ["value", "many", "item"]
theorem sc_is_strings : FnScope N_is_strings ["value", "many"] (defScope s_is_strings) := ⟨rfl, rfl, rfl, by decide +kernel, rfl, by decide +kernel, by decide +kernel⟩
abbrev s_wrapped : Stmt := top 7
abbrev N_wrapped : List Str := ["value"]
theorem sc_wrapped : FnScope N_wrapped ["value"] (defScope s_wrapped) := ⟨rfl, rfl, rfl, by decide +kernel, rfl, by decide +kernel, by decide +kernel⟩
abbrev s_is_address : Stmt := top 9
abbrev N_is_address : List Str := ["value", "image", "owner", "distance"]
theorem sc_is_address : FnScope N_is_address ["value"] (defScope s_is_address) := ⟨rfl, rfl, rfl, by decide +kernel, rfl, by decide +kernel, by decide +kernel⟩
abbrev s_sum_of : Stmt := top 10
abbrev N_sum_of : List Str := ["one", "other"]
theorem sc_sum_of : FnScope N_sum_of ["one", "other"] (defScope s_sum_of) := ⟨rfl, rfl, rfl, by decide +kernel, rfl, by decide +kernel, by decide +kernel⟩
abbrev s_difference : Stmt := top 11
abbrev N_difference : List Str := ["one", "other"]
theorem sc_difference : FnScope N_difference ["one", "other"] (defScope s_difference) := ⟨rfl, rfl, rfl, by decide +kernel, rfl, by decide +kernel, by decide +kernel⟩
abbrev s_in_place : Stmt := top 12
abbrev N_in_place : List Str := ["value", "cells"]
theorem sc_in_place : FnScope N_in_place ["value", "cells"] (defScope s_in_place) := ⟨rfl, rfl, rfl, by decide +kernel, rfl, by decide +kernel, by decide +kernel⟩
abbrev s_is_count : Stmt := top 13
abbrev N_is_count : List Str := ["value"]
theorem sc_is_count : FnScope N_is_count ["value"] (defScope s_is_count) := ⟨rfl, rfl, rfl, by decide +kernel, rfl, by decide +kernel, by decide +kernel⟩
abbrev s_moved : Stmt := top 14
abbrev N_moved : List Str := ["value", "words"]
theorem sc_moved : FnScope N_moved ["value", "words"] (defScope s_moved) := ⟨rfl, rfl, rfl, by decide +kernel, rfl, by decide +kernel, by decide +kernel⟩
abbrev s_law_draw : Stmt := top 16
abbrev N_law_draw : List Str := ["_law_bag_here", "_law_many", "_law_cell", "_law_digit", "_law_seed"]
theorem sc_law_draw : FnScope N_law_draw ["_law_bag_here", "_law_many"] (defScope s_law_draw) := ⟨rfl, rfl, rfl, by decide +kernel, rfl, by decide +kernel, by decide +kernel⟩
abbrev s_law_of : Stmt := top 17
abbrev N_law_of : List Str := ["_law_bag_here", "_law_some"]
theorem sc_law_of : FnScope N_law_of ["_law_bag_here", "_law_some"] (defScope s_law_of) := ⟨rfl, rfl, rfl, by decide +kernel, rfl, by decide +kernel, by decide +kernel⟩
abbrev s_law_number : Stmt := top 18
abbrev N_law_number : List Str := ["_law_bag_here"]
theorem sc_law_number : FnScope N_law_number ["_law_bag_here"] (defScope s_law_number) := ⟨rfl, rfl, rfl, by decide +kernel, rfl, by decide +kernel, by decide +kernel⟩
abbrev s_law_bag : Stmt := top 19
abbrev N_law_bag : List Str := ["_law_script", "_law_mixed", "_law_cell"]
theorem sc_law_bag : FnScope N_law_bag ["_law_script"] (defScope s_law_bag) := ⟨rfl, rfl, rfl, by decide +kernel, rfl, by decide +kernel, by decide +kernel⟩
abbrev s_law_words : Stmt := top 20
abbrev N_law_words : List Str := ["_law_bag_here", "_law_many", "_law_tail", "_law_at", "_law_first", "_law_letters", "_law_k"]
theorem sc_law_words : FnScope N_law_words ["_law_bag_here", "_law_many"] (defScope s_law_words) := ⟨rfl, rfl, rfl, by decide +kernel, rfl, by decide +kernel, by decide +kernel⟩
abbrev s_law_is_value : Stmt := top 21
abbrev N_law_is_value : List Str := ["_law_value"]
theorem sc_law_is_value : FnScope N_law_is_value ["_law_value"] (defScope s_law_is_value) := ⟨rfl, rfl, rfl, by decide +kernel, rfl, by decide +kernel, by decide +kernel⟩
abbrev s_law_same : Stmt := top 22
abbrev N_law_same : List Str := ["_law_found", "_law_due", "_law_key", "_law_one", "_law_two"]
theorem sc_law_same : FnScope N_law_same ["_law_found", "_law_due"] (defScope s_law_same) := ⟨rfl, rfl, rfl, by decide +kernel, rfl, by decide +kernel, by decide +kernel⟩
abbrev s_law_sum : Stmt := top 23
abbrev N_law_sum : List Str := ["_law_one", "_law_other"]
theorem sc_law_sum : FnScope N_law_sum ["_law_one", "_law_other"] (defScope s_law_sum) := ⟨rfl, rfl, rfl, by decide +kernel, rfl, by decide +kernel, by decide +kernel⟩
abbrev s_law_less : Stmt := top 24
abbrev N_law_less : List Str := ["_law_one", "_law_other"]
theorem sc_law_less : FnScope N_law_less ["_law_one", "_law_other"] (defScope s_law_less) := ⟨rfl, rfl, rfl, by decide +kernel, rfl, by decide +kernel, by decide +kernel⟩
abbrev s_law_nest : Stmt := top 25
abbrev N_law_nest : List Str := []
theorem sc_law_nest : FnScope N_law_nest [] (defScope s_law_nest) := ⟨rfl, rfl, rfl, by decide +kernel, rfl, by decide +kernel, by decide +kernel⟩
abbrev s_law_odd : Stmt := top 26
abbrev N_law_odd : List Str := ["_law_bag_here"]
theorem sc_law_odd : FnScope N_law_odd ["_law_bag_here"] (defScope s_law_odd) := ⟨rfl, rfl, rfl, by decide +kernel, rfl, by decide +kernel, by decide +kernel⟩
abbrev s_law_any_value : Stmt := top 27
abbrev N_law_any_value : List Str := ["_law_bag_here", "_law_words_here", "_law_owner"]
theorem sc_law_any_value : FnScope N_law_any_value ["_law_bag_here", "_law_words_here"] (defScope s_law_any_value) := ⟨rfl, rfl, rfl, by decide +kernel, rfl, by decide +kernel, by decide +kernel⟩
abbrev s_law : Stmt := top 28
abbrev N_law : List Str := ["_law_script", "_law_bag_here", "_law_words_here", "_law_owner", "_law_turn", "_law_one", "_law_other", "_law_found", "_law_few", "_law_odd_here", "_law_value"]
theorem sc_law : FnScope N_law ["_law_script"] (defScope s_law) := ⟨rfl, rfl, rfl, by decide +kernel, rfl, by decide +kernel, by decide +kernel⟩
structure Fs where
  (a_is_word : Addr) (d_is_word : FuncData)
  (a_is_number : Addr) (d_is_number : FuncData)
  (a_is_strings : Addr) (d_is_strings : FuncData)
  (a_wrapped : Addr) (d_wrapped : FuncData)
  (a_is_address : Addr) (d_is_address : FuncData)
  (a_sum_of : Addr) (d_sum_of : FuncData)
  (a_difference : Addr) (d_difference : FuncData)
  (a_in_place : Addr) (d_in_place : FuncData)
  (a_is_count : Addr) (d_is_count : FuncData)
  (a_moved : Addr) (d_moved : FuncData)
  (a_law_draw : Addr) (d_law_draw : FuncData)
  (a_law_of : Addr) (d_law_of : FuncData)
  (a_law_number : Addr) (d_law_number : FuncData)
  (a_law_bag : Addr) (d_law_bag : FuncData)
  (a_law_words : Addr) (d_law_words : FuncData)
  (a_law_is_value : Addr) (d_law_is_value : FuncData)
  (a_law_same : Addr) (d_law_same : FuncData)
  (a_law_sum : Addr) (d_law_sum : FuncData)
  (a_law_less : Addr) (d_law_less : FuncData)
  (a_law_nest : Addr) (d_law_nest : FuncData)
  (a_law_odd : Addr) (d_law_odd : FuncData)
  (a_law_any_value : Addr) (d_law_any_value : FuncData)
  (a_law : Addr) (d_law : FuncData)
structure Txt (K : PySem.W.Frag) (w : World) (mg : Str → Option Value) (Z : Fs) : Prop where
  F_is_word : Fun K "is_word" "is_word" s_is_word Z.a_is_word Z.d_is_word
  m_is_word : mg "is_word" = some (.ref Z.a_is_word)
  b_is_word : Binds K Z.d_is_word ["value"] []
  F_is_number : Fun K "is_number" "is_number" s_is_number Z.a_is_number Z.d_is_number
  m_is_number : mg "is_number" = some (.ref Z.a_is_number)
  b_is_number : Binds K Z.d_is_number ["value", "least", "most"] []
  F_is_strings : Fun K "is_strings" "is_strings" s_is_strings Z.a_is_strings Z.d_is_strings
  m_is_strings : mg "is_strings" = some (.ref Z.a_is_strings)
  b_is_strings : Binds K Z.d_is_strings ["value", "many"] []
  F_wrapped : Fun K "wrapped" "wrapped" s_wrapped Z.a_wrapped Z.d_wrapped
  m_wrapped : mg "wrapped" = some (.ref Z.a_wrapped)
  b_wrapped : Binds K Z.d_wrapped ["value"] []
  F_is_address : Fun K "is_address" "is_address" s_is_address Z.a_is_address Z.d_is_address
  m_is_address : mg "is_address" = some (.ref Z.a_is_address)
  b_is_address : Binds K Z.d_is_address ["value"] []
  F_sum_of : Fun K "sum_of" "sum_of" s_sum_of Z.a_sum_of Z.d_sum_of
  m_sum_of : mg "sum_of" = some (.ref Z.a_sum_of)
  b_sum_of : Binds K Z.d_sum_of ["one", "other"] []
  k_sum_of_0_other_one : KBn K Z.d_sum_of ["one", "other"] 0 ["other", "one"] (fun us ws => [(us ++ ws).getD 1 .none, (us ++ ws).getD 0 .none]) (fun us ws => [(us ++ ws).getD 1 .non, (us ++ ws).getD 0 .non])
  F_difference : Fun K "difference" "difference" s_difference Z.a_difference Z.d_difference
  m_difference : mg "difference" = some (.ref Z.a_difference)
  b_difference : Binds K Z.d_difference ["one", "other"] []
  F_in_place : Fun K "in_place" "in_place" s_in_place Z.a_in_place Z.d_in_place
  m_in_place : mg "in_place" = some (.ref Z.a_in_place)
  b_in_place : Binds K Z.d_in_place ["value", "cells"] []
  k_in_place_0_cells_value : KBn K Z.d_in_place ["value", "cells"] 0 ["cells", "value"] (fun us ws => [(us ++ ws).getD 1 .none, (us ++ ws).getD 0 .none]) (fun us ws => [(us ++ ws).getD 1 .non, (us ++ ws).getD 0 .non])
  F_is_count : Fun K "_is_count" "_is_count" s_is_count Z.a_is_count Z.d_is_count
  m_is_count : mg "_is_count" = some (.ref Z.a_is_count)
  b_is_count : Binds K Z.d_is_count ["value"] []
  F_moved : Fun K "_moved" "_moved" s_moved Z.a_moved Z.d_moved
  m_moved : mg "_moved" = some (.ref Z.a_moved)
  b_moved : Binds K Z.d_moved ["value", "words"] []
  F_law_draw : Fun K "_law_draw" "_law_draw" s_law_draw Z.a_law_draw Z.d_law_draw
  m_law_draw : mg "_law_draw" = some (.ref Z.a_law_draw)
  b_law_draw : Binds K Z.d_law_draw ["_law_bag_here", "_law_many"] []
  F_law_of : Fun K "_law_of" "_law_of" s_law_of Z.a_law_of Z.d_law_of
  m_law_of : mg "_law_of" = some (.ref Z.a_law_of)
  b_law_of : Binds K Z.d_law_of ["_law_bag_here", "_law_some"] []
  F_law_number : Fun K "_law_number" "_law_number" s_law_number Z.a_law_number Z.d_law_number
  m_law_number : mg "_law_number" = some (.ref Z.a_law_number)
  b_law_number : Binds K Z.d_law_number ["_law_bag_here"] []
  F_law_bag : Fun K "_law_bag" "_law_bag" s_law_bag Z.a_law_bag Z.d_law_bag
  m_law_bag : mg "_law_bag" = some (.ref Z.a_law_bag)
  b_law_bag : Binds K Z.d_law_bag ["_law_script"] []
  F_law_words : Fun K "_law_words" "_law_words" s_law_words Z.a_law_words Z.d_law_words
  m_law_words : mg "_law_words" = some (.ref Z.a_law_words)
  b_law_words : Binds K Z.d_law_words ["_law_bag_here", "_law_many"] []
  F_law_is_value : Fun K "_law_is_value" "_law_is_value" s_law_is_value Z.a_law_is_value Z.d_law_is_value
  m_law_is_value : mg "_law_is_value" = some (.ref Z.a_law_is_value)
  b_law_is_value : Binds K Z.d_law_is_value ["_law_value"] []
  F_law_same : Fun K "_law_same" "_law_same" s_law_same Z.a_law_same Z.d_law_same
  m_law_same : mg "_law_same" = some (.ref Z.a_law_same)
  b_law_same : Binds K Z.d_law_same ["_law_found", "_law_due"] []
  F_law_sum : Fun K "_law_sum" "_law_sum" s_law_sum Z.a_law_sum Z.d_law_sum
  m_law_sum : mg "_law_sum" = some (.ref Z.a_law_sum)
  b_law_sum : Binds K Z.d_law_sum ["_law_one", "_law_other"] []
  F_law_less : Fun K "_law_less" "_law_less" s_law_less Z.a_law_less Z.d_law_less
  m_law_less : mg "_law_less" = some (.ref Z.a_law_less)
  b_law_less : Binds K Z.d_law_less ["_law_one", "_law_other"] []
  F_law_nest : Fun K "_law_nest" "_law_nest" s_law_nest Z.a_law_nest Z.d_law_nest
  m_law_nest : mg "_law_nest" = some (.ref Z.a_law_nest)
  b_law_nest : Binds K Z.d_law_nest [] []
  F_law_odd : Fun K "_law_odd" "_law_odd" s_law_odd Z.a_law_odd Z.d_law_odd
  m_law_odd : mg "_law_odd" = some (.ref Z.a_law_odd)
  b_law_odd : Binds K Z.d_law_odd ["_law_bag_here"] []
  F_law_any_value : Fun K "_law_any_value" "_law_any_value" s_law_any_value Z.a_law_any_value Z.d_law_any_value
  m_law_any_value : mg "_law_any_value" = some (.ref Z.a_law_any_value)
  b_law_any_value : Binds K Z.d_law_any_value ["_law_bag_here", "_law_words_here"] []
  F_law : Fun K "law" "law" s_law Z.a_law Z.d_law
  m_law : mg "law" = some (.ref Z.a_law)
  b_law : Binds K Z.d_law ["_law_script"] []
  n_all : mg "all" = none
  n_bool : mg "bool" = none
  n_dict : mg "dict" = none
  n_int : mg "int" = none
  n_isinstance : mg "isinstance" = none
  n_len : mg "len" = none
  n_list : mg "list" = none
  n_range : mg "range" = none
  n_str : mg "str" = none
  n_tuple : mg "tuple" = none
  n_zip : mg "zip" = none
  g_MOST_WORD : ∃ t, mg "MOST_WORD" = some (.int 65535 t)
section
variable {X : Cx} {CX : CXT} {k : Nat} {f : Addr} {fd : FuncData} {ps ks : List Str} {sp : Sp} {E : XK} {x : Str} {p pos : Pos} {kws : List Keyword} {tk : TA} {g : List Value → List Value → List Value} {gV : List V → List V → List V}
/-- f(k = v, ..), no value by place -/
theorem pe_callN0 (F : FnOk X.prog X.w X.K X.mg X.base CX k f fd ps sp) (hr : Room k X.A) (hg : Gl X x) (hm : X.mg x = some (.ref f)) (hk : PySem.W.keepIn X.K (.ref f) = true) (hb : KBn X.K fd ps 0 ks g gV) (hx : Passes CX X E) (hkw : PK X kws tk)
    (hall : (backToKw pos (keywordEach kws X.env)).all (·.1.isSome) = true := by rfl) (hks : (backToKw pos (keywordEach kws X.env)).filterMap (·.1) = ks := by rfl) (hdb : (x == ("__debug__" : Str)) = false := by decide)
    (hpl : ((backTo pos (starEach [] X.env)).any (·.1) || (backToKw pos (keywordEach kws X.env)).any (·.1.isNone)) = false := by rfl) :
    PE X (.Call (.Name x p) [] kws pos) (tCallN 0 ks.length sp gV E tNil tk) := by
  refine ⟨fun pins s σ H Q I h => ?_⟩
  refine wpAny_Call_Name_kw (ld_glob I hg hm ?_ hdb)
  refine PySem.W.callWith_KW0 (h₀ := X.base) I.ok.mod.kin hk hall ?_ hpl
  refine thn (hkw.run pos pins s σ H _ I h) fun ws s2 ⟨zs, H2, I2, rz, l1, l2, q2⟩ => ⟨I2.kIn, ?_⟩
  rw [hks]
  exact run_fnN (us := []) (vs := []) F hr hb hx I2 .nil rz rfl l2 q2
end
theorem getD_rel : ∀ {vs : List V} {us : List Value} (h : Vals vs us) (i : Nat), RelV (vs.getD i .non) (us.getD i .none)
  | _, _, .nil, _ => rfl
  | _, _, .cons r _, 0 => r
  | _, _, .cons _ t, i + 1 => getD_rel t i
theorem kbn_k_sum_of_0_other_one {K : PySem.W.Frag} {f : Addr} {fd : FuncData} (F : Fun K "sum_of" "sum_of" s_sum_of f fd) : KBn K fd ["one", "other"] 0 ["other", "one"] (fun us ws => [(us ++ ws).getD 1 .none, (us ++ ws).getD 0 .none]) (fun us ws => [(us ++ ws).getD 1 .non, (us ++ ws).getD 0 .non]) := by
  obtain ⟨oc, od, kV, doc, pm, an, cdv, ct, osl, rfl, lk, hcd⟩ := F.ex
  refine ⟨fun s us ws _ l1 l2 => ?_, fun r1 r2 => .cons (getD_rel (r1.append r2) 1) (.cons (getD_rel (r1.append r2) 0) (.nil))⟩
  match us, ws, l1, l2 with
  | [], [_, _], _, _ => exact .of_eq rfl
theorem kbn_k_in_place_0_cells_value {K : PySem.W.Frag} {f : Addr} {fd : FuncData} (F : Fun K "in_place" "in_place" s_in_place f fd) : KBn K fd ["value", "cells"] 0 ["cells", "value"] (fun us ws => [(us ++ ws).getD 1 .none, (us ++ ws).getD 0 .none]) (fun us ws => [(us ++ ws).getD 1 .non, (us ++ ws).getD 0 .non]) := by
  obtain ⟨oc, od, kV, doc, pm, an, cdv, ct, osl, rfl, lk, hcd⟩ := F.ex
  refine ⟨fun s us ws _ l1 l2 => ?_, fun r1 r2 => .cons (getD_rel (r1.append r2) 1) (.cons (getD_rel (r1.append r2) 0) (.nil))⟩
  match us, ws, l1, l2 with
  | [], [_, _], _, _ => exact .of_eq rfl

/-! ### readings answered construct by construct -/
namespace Go
section
variable {K : PySem.W.Frag} {σ σ' : L2.St} {H : Hp} {Q : VK} {N : L2.St → Hp → Prop} {R : VK} {B C : L2.St → Hp → Prop} {E : XK}
theorem var {i : Nat} {v : V} (h : σ[i]? = some (some v)) (q : Q v H) : tVar i σ H Q := ⟨v, h, q⟩
theorem cst {v : V} (q : Q v H) : tC v σ H Q := q
theorem op {r : R2} {ta tb : TE} (q : ta σ H fun x H1 => tb σ H1 fun y H2 => r x y H2 Q) : tOp r ta tb σ H Q := q
theorem un {r : V → Hp → VK → Prop} {ta : TE} (q : ta σ H fun x H1 => r x H1 Q) : tUn r ta σ H Q := q
theorem cb {r : List V → Hp → VK → Prop} {t : TA} (q : t σ H fun vs H1 => r vs H1 Q) : tCB r t σ H Q := q
theorem nil {Q : List V → Hp → Prop} (q : Q [] H) : tNil σ H Q := q
theorem cons {ta : TE} {tr : TA} {Q : List V → Hp → Prop} (q : ta σ H fun x H1 => tr σ H1 fun xs H2 => Q (x :: xs) H2) : tCons ta tr σ H Q := q
theorem call {sp : Sp} {t : TA} (q : t σ H fun vs H1 => sp vs H1 Q E) : tCall sp [] E t σ H Q := by
  unfold tCall
  simpa only [List.append_nil] using q
/-- both ways of a test -/
def Way (b : Bool) (x y : Prop) : Prop := (b = true → x) ∧ (b = false → y)
theorem way_if {b : Bool} {x y : Prop} : (if b = true then x else y) = Way b x y := by
  cases b <;> simp [Way]
theorem wT {x y : Prop} (h : x) : Way true x y := ⟨fun _ => h, fun e => nomatch e⟩
theorem wF {x y : Prop} (h : y) : Way false x y := ⟨(fun e => nomatch e), fun _ => h⟩
theorem wd {p : Prop} {d : Decidable p} {x y : Prop} (h : p → x) (k : ¬ p → y) : Way (@decide p d) x y := ⟨fun e => h (of_decide_eq_true e), fun e => k (of_decide_eq_false e)⟩
theorem wn {b : Bool} {x y : Prop} (h : Way b y x) : Way (!b) x y := by
  cases b
  · exact ⟨fun _ => h.2 rfl, fun e => nomatch e⟩
  · exact ⟨(fun e => nomatch e), fun _ => h.1 rfl⟩
theorem wayT {b : Bool} {x y : Prop} (e : b = true) (h : x) : Way b x y := by
  subst e
  exact wT h
theorem wayF {b : Bool} {x y : Prop} (e : b = false) (h : y) : Way b x y := by
  subst e
  exact wF h
theorem wayE {b c : Bool} {x y : Prop} (e : b = c) (h : Way c x y) : Way b x y := e ▸ h
theorem bE {b c : Bool} {Q : VK} {H : Hp} (e : b = c) (h : Q (.bl c) H) : Q (.bl b) H := e ▸ h
theorem wb {b : Bool} {x y : Prop} (h : b = true → x) (k : b = false → y) : Way b x y := ⟨h, k⟩
def IsBl (x : V) (p : Bool → Prop) : Prop := ∃ k, x = .bl k ∧ p k
theorem isBl {b : Bool} {p : Bool → Prop} (h : p b) : IsBl (.bl b) p := ⟨b, rfl, h⟩
theorem test {te : TE} {Q : Bool → Hp → Prop} (q : te σ H fun x H1 => IsBl x fun k => Q k H1) : tTest te σ H Q := q
theorem tb {te : TE} {Q : Bool → Hp → Prop} (q : te σ H fun x H1 => IsBl x fun k => Q k H1) : tB te σ H Q := q
theorem and {t u : TT} {Q : Bool → Hp → Prop} (q : t σ H fun c H1 => Way c (u σ H1 Q) (Q false H1)) : tAnd t u σ H Q := by
  unfold tAnd
  simpa only [way_if] using q
theorem or {t u : TT} {Q : Bool → Hp → Prop} (q : t σ H fun c H1 => Way c (Q true H1) (u σ H1 Q)) : tOr t u σ H Q := by
  unfold tOr
  simpa only [way_if] using q
theorem not {t : TT} {Q : Bool → Hp → Prop} (q : t σ H fun c H1 => Q (!c) H1) : tNot t σ H Q := q
theorem andV {ta tb : TE} (q : ta σ H fun x H1 => IsBl x fun c => Way c (tb σ H1 Q) (Q (.bl false) H1)) : tAndV ta tb σ H Q := by
  unfold tAndV
  simp only [way_if]
  exact q
theorem orV {ta tb : TE} (q : ta σ H fun x H1 => IsBl x fun c => Way c (Q (.bl true) H1) (tb σ H1 Q)) : tOrV ta tb σ H Q := by
  unfold tOrV
  simp only [way_if]
  exact q
theorem notV {ta : TE} (q : ta σ H fun x H1 => IsBl x fun c => Q (.bl (!c)) H1) : tNotV ta σ H Q := q
theorem ife {t : TT} {ta tb : TE} (q : t σ H fun c H1 => Way c (ta σ H1 Q) (tb σ H1 Q)) : tIf t ta tb σ H Q := by
  unfold tIf
  simpa only [way_if] using q
theorem chain {r r' : R2} {ta tb tc : TE} (q : ta σ H fun x H1 => tb σ H1 fun y H2 => r x y H2 fun z H3 => IsBl z fun k => Way k (tc σ H3 fun v H4 => r' y v H4 Q) (Q (.bl false) H3)) : tChain r r' ta tb tc σ H Q := by
  unfold tChain
  simp only [way_if]
  exact q
theorem isN {ta : TE} (q : ta σ H fun x H1 => Q (.bl (decide (x = .non))) H1) : tIsN ta σ H Q := q
theorem notN {ta : TE} (q : ta σ H fun x H1 => Q (.bl (!decide (x = .non))) H1) : tNotN ta σ H Q := q
/-! statements -/
theorem next (q : N σ H) : tNext ⟨N, R, B, C⟩ σ H := q
theorem seq {t u : TS} (q : t ⟨u ⟨N, R, B, C⟩, R, B, C⟩ σ H) : tSeq t u ⟨N, R, B, C⟩ σ H := q
theorem drop {te : TE} (q : te σ H fun _ H1 => N σ H1) : tDrop te ⟨N, R, B, C⟩ σ H := q
theorem ret {te : TE} (q : te σ H R) : tRet te ⟨N, R, B, C⟩ σ H := q
theorem retN (q : R .non H) : tRetN ⟨N, R, B, C⟩ σ H := q
theorem ifS {c : TT} {t u : TS} {D : Ends} (q : c σ H fun b H1 => Way b (t D σ H1) (u D σ H1)) : tIfS c t u D σ H := by
  unfold tIfS
  simpa only [way_if] using q
theorem brk (q : B σ H) : tBreak ⟨N, R, B, C⟩ σ H := q
theorem cont (q : C σ H) : tCont ⟨N, R, B, C⟩ σ H := q
theorem asg {te : TE} {g : TG} (q : te σ H fun x H1 => g x σ H1 N) : tAsg te g ⟨N, R, B, C⟩ σ H := q
theorem name {i : Nat} {v : V} {Q : L2.St → Hp → Prop} (h : σ.set i (some v) = σ') (q : Q σ' H) : gName i v σ H Q := by
  subst h
  exact q
theorem sub {to ti : TE} {t : TSet} {v : V} {Q : L2.St → Hp → Prop} (q : to σ H fun o H1 => ti σ H1 fun i H2 => t o i v H2 fun H3 => Q σ H3) : gSub to ti t v σ H Q := q
theorem gtup {n : Nat} {t : TGs} {a : Addr} {xs : List V} {Q : L2.St → Hp → Prop} (h : SqT K H a xs) (l : xs.length = n) (q : t xs σ H Q) : gTup K n t (.ref a) σ H Q := ⟨a, xs, rfl, h, l, q⟩
theorem gnil {Q : L2.St → Hp → Prop} (q : Q σ H) : gNil [] σ H Q := ⟨rfl, q⟩
theorem gcons {t : TG} {u : TGs} {v : V} {r : List V} {Q : L2.St → Hp → Prop} (q : t v σ H fun σ1 H1 => u r σ1 H1 Q) : gCons t u (v :: r) σ H Q := ⟨v, r, rfl, q⟩
def Two (σ : L2.St) (i j : Nat) (vs : List V) (k : L2.St → Prop) : Prop := ∃ v w, vs = [v, w] ∧ k ((σ.set i (some v)).set j (some w))
theorem par {i j : Nat} {ta : TA} (q : ta σ H fun vs H1 => Two σ i j vs fun σ1 => N σ1 H1) : tPar i j ta ⟨N, R, B, C⟩ σ H := q
theorem par2 {i j : Nat} {v w : V} {k : L2.St → Prop} (h : (σ.set i (some v)).set j (some w) = σ') (q : k σ') : Two σ i j [v, w] k := by
  subst h
  exact ⟨v, w, rfl, q⟩
def Three (σ : L2.St) (i j l : Nat) (vs : List V) (k : L2.St → Prop) : Prop := ∃ u v w, vs = [u, v, w] ∧ k (((σ.set i (some u)).set j (some v)).set l (some w))
theorem par3 {i j l : Nat} {ta : TA} (q : ta σ H fun vs H1 => Three σ i j l vs fun σ1 => N σ1 H1) : tPar3 i j l ta ⟨N, R, B, C⟩ σ H := q
theorem par33 {i j l : Nat} {u v w : V} {k : L2.St → Prop} (h : ((σ.set i (some u)).set j (some v)).set l (some w) = σ') (q : k σ') : Three σ i j l [u, v, w] k := by
  subst h
  exact ⟨u, v, w, rfl, q⟩
/-! operators -/
theorem i0 {g : Int → Int → V} {i j : Int} (q : Q (g i j) H) : rI0 g (.int i) (.int j) H Q := ⟨i, j, rfl, rfl, q⟩
theorem i1 {c : Int → Int → Prop} {g : Int → Int → V} {i j : Int} (h : c i j) (q : Q (g i j) H) : rI c g (.int i) (.int j) H Q := ⟨i, j, rfl, rfl, h, q⟩
theorem u1 {g : Int → V} {i : Int} (q : Q (g i) H) : rU g (.int i) H Q := ⟨i, rfl, q⟩
theorem eqI {i j : Int} (q : Q (.bl (decide (i = j))) H) : rEq (.int i) (.int j) H Q := by
  refine ⟨rfl, ?_⟩
  have e : decide (V.int i = V.int j) = decide (i = j) := by rw [Bool.eq_iff_iff]; simp
  rw [e]
  exact q
theorem neI {i j : Int} (q : Q (.bl (!decide (i = j))) H) : rNe (.int i) (.int j) H Q := by
  refine ⟨rfl, ?_⟩
  have e : decide (V.int i = V.int j) = decide (i = j) := by rw [Bool.eq_iff_iff]; simp
  rw [e]
  exact q
theorem eqS {i j : Str} (q : Q (.bl (decide (i = j))) H) : rEq (.str i) (.str j) H Q := by
  refine ⟨rfl, ?_⟩
  have e : decide (V.str i = V.str j) = decide (i = j) := by rw [Bool.eq_iff_iff]; simp
  rw [e]
  exact q
theorem neS {i j : Str} (q : Q (.bl (!decide (i = j))) H) : rNe (.str i) (.str j) H Q := by
  refine ⟨rfl, ?_⟩
  have e : decide (V.str i = V.str j) = decide (i = j) := by rw [Bool.eq_iff_iff]; simp
  rw [e]
  exact q
theorem eqB {i j : Bool} (q : Q (.bl (decide (i = j))) H) : rEq (.bl i) (.bl j) H Q := by
  refine ⟨rfl, ?_⟩
  have e : decide (V.bl i = V.bl j) = decide (i = j) := by rw [Bool.eq_iff_iff]; simp
  rw [e]
  exact q
theorem neB {i j : Bool} (q : Q (.bl (!decide (i = j))) H) : rNe (.bl i) (.bl j) H Q := by
  refine ⟨rfl, ?_⟩
  have e : decide (V.bl i = V.bl j) = decide (i = j) := by rw [Bool.eq_iff_iff]; simp
  rw [e]
  exact q
theorem ixL {p : Addr} {xs : List V} {i : Int} {v : V} (h : SqL K H p xs) (g : atI xs i = some v) (q : Q v H) : rIxL K (.ref p) (.int i) H Q := ⟨p, xs, i, v, rfl, rfl, h, g, q⟩
theorem ixT {p : Addr} {xs : List V} {i : Int} {v : V} (h : SqT K H p xs) (g : atI xs i = some v) (q : Q v H) : rIxT K (.ref p) (.int i) H Q := ⟨p, xs, i, v, rfl, rfl, h, g, q⟩
/-! what is made and what is written -/
/-- all that was tracked, what stands at p apart, is as it was -/
def But (p : Addr) (H H1 : Hp) : Prop := ∀ a o, a ≠ p → H a = some o → H1 a = some o
theorem Sn {p : Addr} {o : HO} (h : H p = none) : Same H (upd H p o) := fun a u e => by rw [upd_ne (ne_of_none e h)]; exact e
def New (o : HO) (H1 : Hp) (k : Addr → Hp → Prop) : Prop := ∀ p, H1 p = none → k p (upd H1 p o)
theorem new {o : HO} {H1 : Hp} {k : Addr → Hp → Prop} (q : ∀ p H2, H1 p = none → Same H1 H2 → H2 p = some o → k p H2) : New o H1 k := fun p h => q p _ h (Sn h) upd_same
def Wr (p : Addr) (o : HO) (H1 : Hp) (k : Hp → Prop) : Prop := k (upd H1 p o)
theorem wr {p : Addr} {o : HO} {H1 : Hp} {k : Hp → Prop} (q : ∀ H2, But p H1 H2 → H2 p = some o → k H2) : Wr p o H1 k := q _ (fun a u n h => by rw [upd_ne n]; exact h) upd_same
theorem lst {t : TA} (q : t σ H fun xs H1 => xs.length ≤ sizeLine ∧ New (.lst xs) H1 fun p H2 => Q (.ref p) H2) : tLst t σ H Q := q
theorem tup {t : TA} (q : t σ H fun xs H1 => xs.length ≤ sizeLine ∧ New (.tup xs) H1 fun p H2 => Q (.ref p) H2) : tTup t σ H Q := q
theorem setL {p : Addr} {xs ys : List V} {k : Int} {j : Nat} {v : V} {Q : Hp → Prop} (h : H p = some (.lst xs)) (g : ixN xs.length k = some j) (e : xs.set j v = ys) (q : Wr p (.lst ys) H Q) : rSetL (.ref p) (.int k) v H Q := by
  subst e
  exact ⟨p, xs, k, j, rfl, rfl, h, g, q⟩
theorem slL {a : Addr} {xs ys : List V} {lo hi : Option Int} (h : SqL K H a xs) (e : cutV xs lo hi = ys) (q : New (.lst ys) H fun p H1 => Q (.ref p) H1) : rSlL K (.ref a) lo hi H Q := by
  subst e
  exact ⟨a, xs, rfl, h, q⟩
theorem slS {z : Str} {lo hi : Option Int} (h : z.cps.size ≤ sizeLine) (q : Q (.str (cutS z lo hi)) H) : rSlS (.str z) lo hi H Q := ⟨z, rfl, h, q⟩
theorem sl {r : V → Option Int → Option Int → Hp → VK → Prop} {te : TE} {tl th : TO} (q : te σ H fun x H1 => tl σ H1 fun l H2 => th σ H2 fun u H3 => r x l u H3 Q) : tSl r te tl th σ H Q := q
theorem noPart {Q : Option Int → Hp → Prop} (q : Q none H) : tNoPart σ H Q := q
def IsI (x : V) (p : Int → Prop) : Prop := ∃ i, x = .int i ∧ p i
theorem isI {i : Int} {p : Int → Prop} (h : p i) : IsI (.int i) p := ⟨i, rfl, h⟩
theorem part {t : TE} {Q : Option Int → Hp → Prop} (q : t σ H fun x H1 => IsI x fun i => Q (some i) H1) : tPart t σ H Q := q
theorem app {p : Addr} {xs ys : List V} {y : V} (h : H p = some (.lst xs)) (l : xs.length < sizeLine) (e : xs ++ [y] = ys) (q : Wr p (.lst ys) H fun H1 => Q .non H1) : rAppend (.ref p) [y] H Q := by
  subst e
  exact ⟨p, xs, y, rfl, rfl, h, l, q⟩
theorem bm {T : String} {r : V → List V → Hp → VK → Prop} {to : TE} {t : TA} (q : to σ H fun x H1 => tyV K T x H1 ∧ t σ H1 fun xs H2 => r x xs H2 Q) : tBM K T r to t σ H Q := q
theorem bm0 {T : String} {r : V → List V → Hp → VK → Prop} {to : TE} (q : to σ H fun x H1 => tyV K T x H1 ∧ r x [] H1 Q) : tBM0 K T r to σ H Q := q
/-! built-in functions, their readings named -/
def RLen (K : PySem.W.Frag) : List V → Hp → VK → Prop := fun xs H Q => ∃ x n, xs = [x] ∧ LenV K x H n ∧ Q (.int n) H
theorem lenL {a : Addr} {xs : List V} (h : SqL K H a xs) (q : Q (.int (xs.length : Nat)) H) : RLen K [.ref a] H Q := ⟨.ref a, xs.length, rfl, .inl ⟨_, h, rfl⟩, q⟩
theorem lenT {a : Addr} {xs : List V} (h : SqT K H a xs) (q : Q (.int (xs.length : Nat)) H) : RLen K [.ref a] H Q := ⟨.ref a, xs.length, rfl, .inr ⟨_, h, rfl⟩, q⟩
theorem lenS {z : Str} (h : z.cps.size ≤ sizeLine) (q : Q (.int (z.cps.size : Nat)) H) : RLen K [.str z] H Q := ⟨.str z, z.cps.size, rfl, ⟨h, rfl⟩, q⟩
def RInt : List V → Hp → VK → Prop := fun xs H Q => (∃ i, xs = [V.int i] ∧ Q (V.int i) H) ∨ ∃ k, xs = [V.bl k] ∧ Q (V.int (if k = true then 1 else 0)) H
theorem intI {i : Int} (q : Q (.int i) H) : RInt [.int i] H Q := .inl ⟨i, rfl, q⟩
def RAbs : List V → Hp → VK → Prop := fun xs H Q => ∃ i, xs = [V.int i] ∧ Q (V.int (if i < 0 then -i else i)) H
theorem absI {i : Int} (q : ∀ j : Int, 0 ≤ j → (j = i ∨ j = -i) → Q (.int j) H) : RAbs [.int i] H Q := ⟨i, rfl, q _ (by split <;> omega) (by split <;> omega)⟩
def RList (K : PySem.W.Frag) : List V → Hp → VK → Prop := fun xs H Q => ∃ p ys, xs = [.ref p] ∧ (SqL K H p ys ∨ SqT K H p ys) ∧ New (.lst ys) H fun l H1 => Q (.ref l) H1
theorem listL {a : Addr} {xs : List V} (h : SqL K H a xs) (q : New (.lst xs) H fun l H1 => Q (.ref l) H1) : RList K [.ref a] H Q := ⟨a, xs, rfl, .inl h, q⟩
theorem listT {a : Addr} {xs : List V} (h : SqT K H a xs) (q : New (.lst xs) H fun l H1 => Q (.ref l) H1) : RList K [.ref a] H Q := ⟨a, xs, rfl, .inr h, q⟩
theorem isi {x c : V} {t u : Value} {b : Bool} (h1 : ClsV c u) (h2 : TyX K H x t) (h3 : PySem.W.kitOne K t u = some b) (q : Q (.bl b) H) : rIsi K [x, c] H Q := ⟨x, c, t, u, b, rfl, h1, h2, h3, q⟩
end
theorem c_len {X : Cx} : CallR X (.builtin "len") (RLen X.K) := call_len
theorem c_list {X : Cx} : CallR X (.type "list") (RList X.K) := call_list_of
theorem c_abs {X : Cx} : CallR X (.builtin "abs") RAbs := call_abs
theorem c_int {X : Cx} : CallR X (.type "int") RInt := call_int1
theorem cut {t u : TS} {σ : L2.St} {H : Hp} {N : L2.St → Hp → Prop} {R : VK} {B C : L2.St → Hp → Prop} (M : L2.St → Hp → Prop) (q : t ⟨M, R, B, C⟩ σ H) (k : ∀ σ1 H1, M σ1 H1 → u ⟨N, R, B, C⟩ σ1 H1) : C8.tCut t u ⟨N, R, B, C⟩ σ H := ⟨M, q, k⟩
section
variable {K : PySem.W.Frag} {H H1 H2 : Hp} {a b p q : Addr} {o : HO} {xs : List V}
theorem But.refl : But b H H := fun _ _ _ h => h
theorem But.trans (x : But b H H1) (y : But b H1 H2) : But b H H2 := fun a o n h => y a o n (x a o n h)
theorem sb (x : Same H H1) : But b H H1 := fun a o _ h => x a o h
/-- what was made behind H is changed: nothing for H -/
theorem But.own (x : But b H H1) (n : H q = none) (y : But q H1 H2) : But b H H2 := fun a o ne h => y a o (ne_of_none h n) (x a o ne h)
theorem Same.own (x : Same H H1) (n : H q = none) (y : But q H1 H2) : Same H H2 := fun a o h => y a o (ne_of_none h n) (x a o h)
theorem freeS (s : Same H H1) (h : H1 q = none) : H q = none := by
  cases e : H q with
  | none => rfl
  | some o =>
    rw [s q o e] at h
    cases h
theorem freeB (s : But b H H1) (n : q ≠ b) (h : H1 q = none) : H q = none := by
  cases e : H q with
  | none => rfl
  | some o =>
    rw [s q o n e] at h
    cases h
theorem oS (s : Same H H1) (h : H p = some o) : H1 p = some o := s _ _ h
theorem oB (s : But b H H1) (n : p ≠ b) (h : H p = some o) : H1 p = some o := s _ _ n h
theorem lS (s : Same H H1) (h : SqL K H a xs) : SqL K H1 a xs := s.seq h
theorem lB (s : But b H H1) (n : a ≠ b) (h : SqL K H a xs) : SqL K H1 a xs := by
  rcases h with (h | ⟨o, h⟩) | h
  · exact .inl (.inl (s _ _ n h))
  · exact .inl (.inr ⟨o, s _ _ n h⟩)
  · exact .inr h
theorem tS (s : Same H H1) (h : SqT K H a xs) : SqT K H1 a xs := by
  rcases h with (h | ⟨o, h⟩) | h
  · exact .inl (.inl (s _ _ h))
  · exact .inl (.inr ⟨o, s _ _ h⟩)
  · exact .inr h
theorem tB (s : But b H H1) (n : a ≠ b) (h : SqT K H a xs) : SqT K H1 a xs := by
  rcases h with (h | ⟨o, h⟩) | h
  · exact .inl (.inl (s _ _ n h))
  · exact .inl (.inr ⟨o, s _ _ n h⟩)
  · exact .inr h
end
/-! ### walks -/
def ForG (J : It) (g : TG) (tb : TS) : TS := fun D σ H => ∃ W : Nat → Nat → L2.St → Hp → Prop, (∃ m, W 0 m σ H) ∧ ∀ i m σ H, W i m σ H →
  (J.stop i H ∧ D.nx σ H) ∨ (J.go i H ∧ ∃ N : L2.St → Hp → Prop, (∀ σ' H', N σ' H' → ∃ m', m' < m ∧ W (i + 1) m' σ' H') ∧ ∀ x H', J.yld i H x H' → g x σ H' fun σ2 H2 => tb { D with nx := N, ct := N, bk := D.nx } σ2 H2)
def LcG (J : It) (g : TG) (tt : TT) (te : TE) (vs : List Nat) : L2.St → Hp → VK → Prop := fun σ H1 Q => ∀ D, H1 D = none → ∃ W : Nat → Nat → Hp → Prop, (∃ m, W 0 m (upd H1 D (.lst []))) ∧ ∀ i m H, W i m H →
  (J.stop i H ∧ Q (.ref D) H) ∨ (J.go i H ∧ ∃ Nx : Hp → Prop, (∀ H', Nx H' → ∃ m', m' < m ∧ W (i + 1) m' H') ∧ ∀ x H', J.yld i H x H' → g x (wipe σ vs) H' fun σ2 H2 => wipe σ2 vs = wipe σ vs ∧ tt σ2 H2 fun b H3 =>
    if b = true then te σ2 H3 fun y H4 => ∃ acc, H4 D = some (.lst acc) ∧ acc.length < sizeLine ∧ Nx (upd H4 D (.lst (acc ++ [y]))) else Nx H3)
def LcEnd (D : Addr) (I : Hp → Prop) (y : V) (H4 : Hp) : Prop := ∃ acc, H4 D = some (.lst acc) ∧ acc.length < sizeLine ∧ I (upd H4 D (.lst (acc ++ [y])))
section
variable {K : PySem.W.Frag} {σ : L2.St} {H H1 : Hp} {Q : VK} {N : L2.St → Hp → Prop} {R : VK} {B C : L2.St → Hp → Prop} {J : It} {n : Nat} {G : Hp → Prop} {Y : Nat → Hp → V → Hp → Prop} {g : TG} {tb : TS} {tt : TT} {te : TE} {vs : List Nat} {a : Addr} {xs ys : List V}
theorem forr {wi : TI} {D : Ends} (q : wi σ H fun J H1 => ForG J g tb D σ H1) : tFor wi g tb D σ H := q
theorem for_w (w : Walk J n G Y) (I : Nat → L2.St → Hp → Prop) (h0 : I 0 σ H) (hG : ∀ i σ1 H1, i ≤ n → I i σ1 H1 → G H1)
    (hs : ∀ i x σ1 H1 H2, i < n → I i σ1 H1 → Y i H1 x H2 → g x σ1 H2 fun σ2 H3 => tb ⟨I (i + 1), R, N, I (i + 1)⟩ σ2 H3) (hd : ∀ σ1 H1, I n σ1 H1 → N σ1 H1) : ForG J g tb ⟨N, R, B, C⟩ σ H :=
  for_it w (D := ⟨N, R, B, C⟩) I h0 hG (fun i x σ1 H1 H2 hi h y => hs i x σ1 H1 H2 hi h y) hd
theorem lc {wi : TI} (q : wi σ H fun J H1 => LcG J g tt te vs σ H1 Q) : tLc wi g tt te vs σ H Q := q
theorem yes {Q : Bool → Hp → Prop} (q : Q true H) : tYes σ H Q := q
theorem lcEnd {D : Addr} {I : Hp → Prop} {y : V} {acc : List V} (h : H D = some (.lst acc)) (l : acc.length < sizeLine) (q : ∀ H2, But D H H2 → H2 D = some (.lst (acc ++ [y])) → I H2) : LcEnd D I y H := ⟨acc, h, l, q _ (fun a o n e => by rw [upd_ne n]; exact e) upd_same⟩
theorem lc_w {σ0 : L2.St} (w : Walk J n G Y) (I : Addr → Nat → Hp → Prop) (ew : wipe σ vs = σ0) (h0 : ∀ D H2, H1 D = none → Same H1 H2 → H2 D = some (.lst []) → I D 0 H2)
    (hG : ∀ D i H, i ≤ n → I D i H → G H)
    (hs : ∀ D i x H H', i < n → I D i H → Y i H x H' → g x σ0 H' fun σ2 H2 => wipe σ2 vs = σ0 ∧ tt σ2 H2 fun b H3 => Way b (te σ2 H3 fun y H4 => LcEnd D (I D (i + 1)) y H4) (I D (i + 1) H3))
    (hd : ∀ D H, I D n H → Q (.ref D) H) : LcG J g tt te vs σ H1 Q := by
  subst ew
  intro D hD
  refine lc_it w (I D) (h0 D _ hD (Sn hD) upd_same) (hG D) ?_ (hd D)
  intro i x H H' hi h y
  have q := hs D i x H H' hi h y
  simp only [← way_if] at q
  exact q
theorem lt_line {m : Nat} (h : m ≤ 100000) : m < sizeLine := Nat.lt_of_le_of_lt h (by decide)
theorem le_line {m : Nat} (h : m ≤ 100000) : m ≤ sizeLine := Nat.le_of_lt (lt_line h)
theorem okW {p q : Prop} (h : p) (k : q) : p ∧ q := ⟨h, k⟩
def AtR (x : V) (k : Addr → Prop) : Prop := ∃ a, x = .ref a ∧ k a
theorem atR {k : Addr → Prop} (h : k a) : AtR (.ref a) k := ⟨a, rfl, h⟩
theorem itL {tl : TE} {T : It → Hp → Prop} (q : tl σ H fun x H1 => AtR x fun a => (∃ xs, SqL K H1 a xs) ∧ T (Itl K a) H1) : iList K tl σ H T := q
theorem itT {tl : TE} {T : It → Hp → Prop} (q : tl σ H fun x H1 => AtR x fun a => (∃ xs, SqT K H1 a xs) ∧ T (Itt K a) H1) : iTup K tl σ H T := q
theorem hasL {q : Prop} (h : SqL K H a xs) (k : q) : (∃ xs, SqL K H a xs) ∧ q := ⟨⟨xs, h⟩, k⟩
theorem hasT {q : Prop} (h : SqT K H a xs) (k : q) : (∃ xs, SqT K H a xs) ∧ q := ⟨⟨xs, h⟩, k⟩
def Is1 (vs : List V) (k : Int → Prop) : Prop := ∃ j, vs = [.int j] ∧ k j
theorem is1 {j : Int} {k : Int → Prop} (h : k j) : Is1 [.int j] k := ⟨j, rfl, h⟩
theorem itR {ta : TA} {T : It → Hp → Prop} (q : ta σ H fun vs H1 => Is1 vs fun j => -(2 ^ 62) ≤ j ∧ j < 2 ^ 62 ∧ T (Itr 0 j.toNat) H1) : iRng1 ta σ H T := q
def Is2 (vs : List V) (k : Int → Int → Prop) : Prop := ∃ i j, vs = [.int i, .int j] ∧ k i j
theorem is2 {i j : Int} {k : Int → Int → Prop} (h : k i j) : Is2 [.int i, .int j] k := ⟨i, j, rfl, h⟩
theorem itR2 {ta : TA} {T : It → Hp → Prop} (q : ta σ H fun vs H1 => Is2 vs fun i j => (-(2 ^ 62) ≤ i ∧ i < 2 ^ 62 ∧ -(2 ^ 62) ≤ j ∧ j < 2 ^ 62) ∧ T (Itr i (j - i).toNat) H1) : iRng2 ta σ H T := q
theorem r2 {i j : Int} {q : Prop} (h : -(2 ^ 62) ≤ i ∧ i < 2 ^ 62 ∧ -(2 ^ 62) ≤ j ∧ j < 2 ^ 62) (k : q) : (-(2 ^ 62) ≤ i ∧ i < 2 ^ 62 ∧ -(2 ^ 62) ≤ j ∧ j < 2 ^ 62) ∧ q := ⟨h, k⟩
theorem r1 {j : Int} {q : Prop} (h1 : -(2 ^ 62) ≤ j) (h2 : j < 2 ^ 62) (k : q) : -(2 ^ 62) ≤ j ∧ j < 2 ^ 62 ∧ q := ⟨h1, h2, k⟩
end
section
variable {K : PySem.W.Frag} {σ : L2.St} {H : Hp} {a b : Addr} {xs ys : List V}
def IsZip (K : PySem.W.Frag) (vs : List V) (H1 : Hp) (k : It → Prop) : Prop := ∃ a b xs ys, vs = [.ref a, .ref b] ∧ ((SqL K H1 a xs ∧ SqL K H1 b ys ∧ k (Itz K a b)) ∨ (SqT K H1 a xs ∧ SqT K H1 b ys ∧ k (RZ.ItzT K a b)))
theorem itZ {ta : TA} {T : It → Hp → Prop} (q : ta σ H fun vs H1 => IsZip K vs H1 fun J => T J H1) : RZ.iZipA K ta σ H T := q
theorem zL {k : It → Prop} (h1 : SqL K H a xs) (h2 : SqL K H b ys) (q : k (Itz K a b)) : IsZip K [.ref a, .ref b] H k := ⟨a, b, xs, ys, rfl, .inl ⟨h1, h2, q⟩⟩
theorem zT {k : It → Prop} (h1 : SqT K H a xs) (h2 : SqT K H b ys) (q : k (RZ.ItzT K a b)) : IsZip K [.ref a, .ref b] H k := ⟨a, b, xs, ys, rfl, .inr ⟨h1, h2, q⟩⟩
theorem allL {bs : List Bool} {Q : VK} (h : SqL K H a (bs.map V.bl)) (q : Q (.bl (bs.all id)) H) : rAll K [.ref a] H Q := ⟨a, bs, rfl, h, q⟩
theorem anyL {bs : List Bool} {Q : VK} (h : SqL K H a (bs.map V.bl)) (q : Q (.bl (bs.any id)) H) : rAny K [.ref a] H Q := ⟨a, bs, rfl, h, q⟩
/-- a new pair of the i-th of xs and the i-th of ys -/
def YP (xs ys : List V) : Nat → Hp → V → Hp → Prop := fun i H v H1 => ∃ T x y, v = .ref T ∧ H T = none ∧ Same H H1 ∧ H1 T = some (.tup [x, y]) ∧ xs[i]? = some x ∧ ys[i]? = some y
theorem walkZ {n : Nat} (hn : n = min xs.length ys.length) : Walk (Itz K a b) n (fun H => SqL K H a xs ∧ SqL K H b ys) (YP xs ys) :=
  (walk_zip hn).mono (fun _ h => h) fun i H x H1 _ _ ⟨T, u, t, e1, e2, e3, e4, e5⟩ => ⟨T, u, t, e1, e2, e3 ▸ Sn e2, e3 ▸ upd_same, e4, e5⟩
theorem walkZT {n : Nat} (hn : n = min xs.length ys.length) : Walk (RZ.ItzT K a b) n (fun H => SqT K H a xs ∧ SqT K H b ys) (YP xs ys) := by
  subst hn
  refine ⟨fun i _ hi q => ?_, fun _ q => ⟨xs, ys, q.1, q.2, by omega⟩, fun i H v H' _ q y => ?_⟩
  · have h1 : i < xs.length := by omega
    have h2 : i < ys.length := by omega
    exact ⟨xs, ys, xs[i], ys[i], q.1, q.2, by simp [h1], by simp [h2]⟩
  · obtain ⟨T, x, z, h1, h2, h3, h4, h5⟩ := y
    exact ⟨T, x, z, h1, h2, h3 ▸ Sn h2, h3 ▸ upd_same, h4 xs q.1, h5 ys q.2⟩
theorem all_rep (n : Nat) : (List.replicate n true).all id = true := by
  rw [List.all_eq_true]
  intro x hx
  rw [(List.mem_replicate.mp hx).2]
  rfl
end
section
variable {K : PySem.W.Frag} {σ : L2.St} {H : Hp} {a : Addr} {xs ys : List V} {Q : VK}
def IsSt (K : PySem.W.Frag) (x : V) (H1 : Hp) (k : List V → Prop) : Prop := ∃ p xs, x = V.ref p ∧ (SqT K H1 p xs ∨ SqL K H1 p xs) ∧ k xs
theorem star {te : TE} {t : TA} {Q : List V → Hp → Prop} (q : te σ H fun x H1 => IsSt K x H1 fun xs => t σ H1 fun ys H2 => Q (xs ++ ys) H2) : StX.tStar K te t σ H Q := q
theorem isStT {k : List V → Prop} (h : SqT K H a xs) (q : k xs) : IsSt K (.ref a) H k := ⟨a, xs, rfl, .inl h, q⟩
theorem isStL {k : List V → Prop} (h : SqL K H a xs) (q : k xs) : IsSt K (.ref a) H k := ⟨a, xs, rfl, .inr h, q⟩
theorem slT {lo hi : Option Int} (h : SqT K H a xs) (w : ¬ (HT.sIx xs.length 0 lo = 0 ∧ HT.sIx xs.length xs.length hi = xs.length)) (e : cutV xs lo hi = ys) (q : New (.tup ys) H fun p H1 => Q (.ref p) H1) : rSlT K (.ref a) lo hi H Q := by
  subst e
  exact ⟨a, xs, rfl, h, w, q⟩
theorem eqD {x y : V} {d e : PyData} (h1 : Dp K H x d) (h2 : Dp K H y e) (h3 : SeqAt.shaped d = true) (h4 : SeqAt.shaped e = true) (q : Q (.bl (PyData.eqv d e)) H) : rEqD K x y H Q := ⟨d, e, h1, h2, h3, h4, q⟩
theorem neD {x y : V} {d e : PyData} (h1 : Dp K H x d) (h2 : Dp K H y e) (h3 : SeqAt.shaped d = true) (h4 : SeqAt.shaped e = true) (q : Q (.bl (!PyData.eqv d e)) H) : rNeD K x y H Q := ⟨d, e, h1, h2, h3, h4, q⟩
end
section
variable {K : PySem.W.Frag} {σ : L2.St} {H : Hp} {a : Addr} {xs ys : List V} {Q : VK} {E : XK}
def Kw (n m : Nat) (sp : Sp) (gV : List V → List V → List V) (E : XK) (vs zs : List V) (H : Hp) (Q : VK) : Prop := vs.length = n ∧ zs.length = m ∧ sp (gV vs zs) H Q E
theorem callN {n m : Nat} {sp : Sp} {gV : List V → List V → List V} {t tk : TA} (q : t σ H fun vs H1 => tk σ H1 fun zs H2 => Kw n m sp gV E vs zs H2 Q) : tCallN n m sp gV E t tk σ H Q := q
theorem okN {n m : Nat} {vs zs as : List V} {sp : Sp} {gV : List V → List V → List V} (h1 : vs.length = n) (h2 : zs.length = m) (e : gV vs zs = as) (q : sp as H Q E) : Kw n m sp gV E vs zs H Q := by
  subst e
  exact ⟨h1, h2, q⟩
theorem rep {k : Int} (h : H a = some (.lst xs)) (h1 : -(2 ^ 63) ≤ k) (h2 : k < 2 ^ 63) (h3 : xs.length * k.toNat ≤ sizeLine) (e : (List.replicate k.toNat xs).flatten = ys) (q : New (.lst ys) H fun p H1 => Q (.ref p) H1) : rRep (.ref a) (.int k) H Q := by
  subst e
  exact ⟨a, k, xs, rfl, rfl, h, h1, h2, h3, q⟩
theorem cat {b : Addr} {zs : List V} (h1 : H a = some (.lst xs)) (h2 : H b = some (.lst ys)) (h3 : xs.length + ys.length ≤ sizeLine) (e : xs ++ ys = zs) (q : New (.lst zs) H fun p H1 => Q (.ref p) H1) : rCat (.ref a) (.ref b) H Q := by
  subst e
  exact ⟨a, b, xs, ys, rfl, rfl, h1, h2, h3, q⟩
def RAddS : R2 := fun x y H Q => ∃ i j, x = .str i ∧ y = .str j ∧ i.length + j.length ≤ sizeLine ∧ Q (.str (i ++ j)) H
theorem c_addS {X : Cx} : OpR X (binaryOp .Add) RAddS := op_add_str
theorem addS {i j : Str} (h : i.cps.size + j.cps.size ≤ sizeLine) (q : Q (.str (i ++ j)) H) : RAddS (.str i) (.str j) H Q := ⟨i, j, rfl, rfl, h, q⟩
theorem mem_atI {α : Type} {xs : List α} {d : Int} (h0 : 0 ≤ d) (h1 : d < xs.length) : ∃ v, atI xs d = some v ∧ v ∈ xs := by
  obtain ⟨j, rfl⟩ : ∃ j : Nat, d = (j : Int) := ⟨d.toNat, by omega⟩
  have hj : j < xs.length := by omega
  exact ⟨xs[j], atI_nat (List.getElem?_eq_getElem hj), List.getElem_mem hj⟩
theorem ixSm {z : Str} {i : Int} (h : z.cps.size ≤ sizeLine) (h0 : 0 ≤ i) (h1 : i < z.cps.toList.length) (q : ∀ c, c ∈ z.cps.toList → Q (.str ⟨#[c]⟩) H) : rIxS (.str z) (.int i) H Q := by
  obtain ⟨c, hc, hm⟩ := mem_atI (xs := z.cps.toList) h0 h1
  exact ⟨z, i, c, rfl, rfl, h, hc, q c hm⟩
theorem ixLm {i : Int} (h : SqL K H a xs) (h0 : 0 ≤ i) (h1 : i < xs.length) (q : ∀ v, v ∈ xs → Q v H) : rIxL K (.ref a) (.int i) H Q := by
  obtain ⟨c, hc, hm⟩ := mem_atI (xs := xs) h0 h1
  exact ⟨a, xs, i, c, rfl, rfl, h, hc, q c hm⟩
theorem ixS {z : Str} {i : Int} {c : Nat} (h : z.cps.size ≤ sizeLine) (g : atI z.cps.toList i = some c) (q : Q (.str ⟨#[c]⟩) H) : rIxS (.str z) (.int i) H Q := ⟨z, i, c, rfl, rfl, h, g, q⟩
end
def kit2 (K : PySem.W.Frag) (t u : Value) (b : Bool) : Prop := PySem.W.kitOne K t u = some b
end Go
/-! ### the bag of the law: a list of a list of ints and four numbers -/
def Bag (H : Hp) (b l : Addr) : Prop := ∃ (ns : List Int) (i : Nat) (r m n : Int), H b = some (.lst [.ref l, .int i, .int r, .int m, .int n]) ∧ H l = some (.lst (ns.map V.int)) ∧ l ≠ b ∧ ns.length ≤ 63 ∧ 0 ≤ r ∧ 0 ≤ m ∧ m < 2147483648
abbrev Stp (b : Addr) (H H' : Hp) : Prop := Go.But b H H'
theorem Stp.refl {b : Addr} {H : Hp} : Stp b H H := fun _ _ _ h => h
theorem Stp.trans {b : Addr} {H H1 H2 : Hp} (x : Stp b H H1) (y : Stp b H1 H2) : Stp b H H2 := fun a o n h => y a o n (x a o n h)
theorem Stp.put {b : Addr} {H : Hp} {o : HO} : Stp b H (upd H b o) := fun a u n h => by rw [upd_ne n]; exact h
theorem Stp.new {b p : Addr} {H : Hp} {o : HO} (h : H p = none) : Stp b H (upd H p o) := fun a u _ e => by rw [upd_ne (ne_of_none e h)]; exact e
theorem Same.new {p : Addr} {H : Hp} {o : HO} (h : H p = none) : Same H (upd H p o) := fun a u e => by rw [upd_ne (ne_of_none e h)]; exact e
theorem Same.stp {b : Addr} {H H' : Hp} (h : Same H H') : Stp b H H' := fun a o _ e => h a o e
theorem Bag.same {b l : Addr} {H H' : Hp} (s : Same H H') (h : Bag H b l) : Bag H' b l := by
  obtain ⟨ns, i, r, m, n, h1, h2, h3⟩ := h
  exact ⟨ns, i, r, m, n, s _ _ h1, s _ _ h2, h3⟩
theorem Bag.but {b l q : Addr} {H H' : Hp} (s : Go.But q H H') (n1 : b ≠ q) (n2 : l ≠ q) (h : Bag H b l) : Bag H' b l := by
  obtain ⟨ns, i, r, m, n, h1, h2, h3⟩ := h
  exact ⟨ns, i, r, m, n, s _ _ n1 h1, s _ _ n2 h2, h3⟩
theorem Bag.at {b l : Addr} {H : Hp} (h : Bag H b l) : ∃ u, H b = some u := by
  obtain ⟨ns, i, r, m, n, h1, _⟩ := h
  exact ⟨_, h1⟩
theorem Bag.new {b l p : Addr} {H : Hp} {o : HO} (h : Bag H b l) (hp : H p = none) : Bag (upd H p o) b l := h.same (Same.new hp)
theorem Bag.ne {b l p : Addr} {H : Hp} (h : Bag H b l) (hp : H p = none) : p ≠ b := by
  obtain ⟨ns, i, r, m, n, h1, _⟩ := h
  exact (ne_of_none h1 hp).symm
theorem Bag.nel {b l p : Addr} {H : Hp} (h : Bag H b l) (hp : H p = none) : p ≠ l := by
  obtain ⟨ns, i, r, m, n, _, h1, _⟩ := h
  exact (ne_of_none h1 hp).symm
/-- a list of one's own is written -/
theorem Bag.put {b l p : Addr} {H : Hp} {o : HO} (h : Bag H b l) (n : p ≠ b) (nl : p ≠ l) : Bag (upd H p o) b l := by
  obtain ⟨ns, i, r, m, c, h1, h2, h3⟩ := h
  exact ⟨ns, i, r, m, c, by rw [upd_ne n.symm]; exact h1, by rw [upd_ne nl.symm]; exact h2, h3⟩
/-- what was new is new: the bag stands behind, too -/
theorem Stp.free {b l p : Addr} {H H' : Hp} (s : Stp b H H') (hb : Bag H' b l) (hp : H' p = none) : H p = none := Go.freeB s (hb.ne hp) hp
theorem Stp.sqL {K : PySem.W.Frag} {b a : Addr} {H H' : Hp} {xs : List V} (s : Stp b H H') (n : a ≠ b) (h : SqL K H a xs) : SqL K H' a xs := Go.lB s n h
theorem Stp.sqT {K : PySem.W.Frag} {b a : Addr} {H H' : Hp} {xs : List V} (s : Stp b H H') (n : a ≠ b) (h : SqT K H a xs) : SqT K H' a xs := Go.tB s n h
local macro_rules | `(tactic| tm_at "idx") => `(tactic| first | rfl | exact atI_nat (j := 0) rfl | exact atI_nat (j := 1) rfl | exact atI_nat (j := 2) rfl | exact atI_nat (j := 3) rfl | exact atI_nat (j := 4) rfl | assumption)
local macro_rules | `(tactic| tm_at "ixn") => `(tactic| first | exact (rfl : _ = some 0) | exact (rfl : _ = some 1) | exact (rfl : _ = some 2) | exact (rfl : _ = some 3) | exact (rfl : _ = some 4) | rfl)
local macro_rules | `(tactic| tm_at "ne") => `(tactic| first | assumption | exact Ne.symm (by assumption))
local macro_rules | `(tactic| tm_at "hpO") => `(tactic| first | assumption | (refine' Go.oS (by assumption) ?z0; (case z0 => tm_at "hpO")) | (refine' Go.oB (by assumption) ?z0 ?z1; (case z0 => tm_at "ne"); (case z1 => tm_at "hpO")))
local macro_rules | `(tactic| tm_at "hpL") => `(tactic| first | assumption | exact SqL.of (by assumption) | (refine' Go.lS (by assumption) ?z0; (case z0 => tm_at "hpL")) | (refine' Go.lB (by assumption) ?z0 ?z1; (case z0 => tm_at "ne"); (case z1 => tm_at "hpL")))
local macro_rules | `(tactic| tm_at "hpT") => `(tactic| first | assumption | exact SqT.of (by assumption) | (refine' Go.tS (by assumption) ?z0; (case z0 => tm_at "hpT")) | (refine' Go.tB (by assumption) ?z0 ?z1; (case z0 => tm_at "ne"); (case z1 => tm_at "hpT")))
local macro_rules | `(tactic| tm_at "bag") => `(tactic| first | assumption | (refine' Bag.same (by assumption) ?z0; (case z0 => tm_at "bag")) | (refine' Bag.but (by assumption) ?z0 ?z1 ?z2; (case z0 => tm_at "ne"); (case z1 => tm_at "ne"); (case z2 => tm_at "bag")))
local macro_rules | `(tactic| tm_at "non") => `(tactic| first | assumption | (refine' Go.freeS (by assumption) ?z0; (case z0 => tm_at "non")) | (refine' Go.freeB (by assumption) ?z0 ?z1; (case z0 => tm_at "ne"); (case z1 => tm_at "non")))
local macro_rules | `(tactic| tm_at "same") => `(tactic| first | assumption | exact Same.refl _ | (refine' Same.trans ?z0 (by assumption); (case z0 => tm_at "same")) | (refine' Go.Same.own ?z0 ?z1 (by assumption); (case z0 => tm_at "same"); (case z1 => tm_at "non")))
local macro_rules | `(tactic| tm_at "but") => `(tactic| first | assumption | exact Go.But.refl | (refine' Go.But.trans ?z0 (by assumption); (case z0 => tm_at "but")) | (refine' Go.But.trans ?z0 (Go.sb (by assumption)); (case z0 => tm_at "but")) | (refine' Go.But.own ?z0 ?z1 (by assumption); (case z0 => tm_at "but"); (case z1 => tm_at "non")))
local macro_rules | `(tactic| tm_at "set") => `(tactic| (first | (simp only [Int.reduceToNat, List.set_cons_succ, List.set_cons_zero, List.cons_append, List.nil_append]; (first | done | rfl)) | rfl))
local macro_rules | `(tactic| tm_at "side") => `(tactic| first | assumption | omega | (unfold CMul; omega) | (unfold CDiv; omega) | (unfold CPow; omega) | exact .inr ⟨by omega, by omega⟩ | exact .inl ⟨by omega, by omega⟩ | (show (0 : Int) < _; omega) | exact Nat.le_of_ble_eq_true rfl)
local macro_rules | `(tactic| tm_at "go1") => `(tactic| first
  | with_reducible refine Go.seq ?_
  | with_reducible refine Go.asg ?_
  | with_reducible refine Go.op ?_
  | with_reducible refine Go.cst ?_
  | ((with_reducible refine' Go.var ?v ?_); (case v => rfl))
  | with_reducible refine Go.i0 ?_
  | ((with_reducible refine' Go.ixL ?h ?g ?_); (case h => tm_at "hpL"); (case g => tm_at "idx"))
  | ((with_reducible refine' Go.ixT ?h ?g ?_); (case h => tm_at "hpT"); (case g => tm_at "idx"))
  | ((with_reducible refine' Go.i1 ?h ?_); (case h => tm_at "side"))
  | with_reducible refine Go.cb ?_
  | with_reducible refine Go.cons ?_
  | with_reducible refine Go.nil ?_
  | with_reducible refine Go.call ?_
  | with_reducible refine Go.intI ?_
  | ((with_reducible refine Go.absI ?_); intro _ _ _)
  | ((with_reducible refine' Go.lenL ?h ?_); (case h => tm_at "hpL"))
  | ((with_reducible refine' Go.lenT ?h ?_); (case h => tm_at "hpT"))
  | ((with_reducible refine' Go.listL ?h ?_); (case h => tm_at "hpL"))
  | ((with_reducible refine' Go.listT ?h ?_); (case h => tm_at "hpT"))
  | ((with_reducible refine' Go.lenS ?h ?_); (case h => first | assumption | exact Go.le_line (by omega)))
  | with_reducible refine Go.eqI ?_
  | with_reducible refine Go.neI ?_
  | with_reducible refine Go.eqS ?_
  | with_reducible refine Go.neS ?_
  | with_reducible refine Go.ifS ?_
  | with_reducible refine Go.test ?_
  | with_reducible refine Go.tb ?_
  | with_reducible refine Go.and ?_
  | with_reducible refine Go.or ?_
  | with_reducible refine Go.not ?_
  | with_reducible refine Go.isBl ?_
  | with_reducible refine Go.ret ?_
  | with_reducible refine Go.drop ?_
  | with_reducible refine Go.next ?_
  | ((with_reducible refine' Go.name ?h ?_); (case h => tm_at "set"))
  | with_reducible refine Go.sub ?_
  | ((with_reducible refine' Go.setL ?h ?g ?e ?_); (case h => tm_at "hpO"); (case g => tm_at "ixn"); (case e => tm_at "set"))
  | ((with_reducible refine' Go.wr ?_); intro _ _ _)
  | ((with_reducible refine' Go.new ?_); intro p' H' n' _ _; (try have := Bag.ne (by tm_at "bag") n'); (try have := Bag.nel (by tm_at "bag") n'))
  | with_reducible refine Go.forr ?_
  | with_reducible refine Go.itZ ?_
  | ((with_reducible refine' Go.zL ?h1 ?h2 ?_); (case h1 => tm_at "hpL"); (case h2 => tm_at "hpL"))
  | ((with_reducible refine' Go.zT ?h1 ?h2 ?_); (case h1 => tm_at "hpT"); (case h2 => tm_at "hpT"))
  | with_reducible refine Go.lc ?_
  | with_reducible refine Go.yes ?_
  | with_reducible refine Go.itL ?_
  | with_reducible refine Go.itT ?_
  | with_reducible refine Go.itR ?_
  | with_reducible refine Go.atR ?_
  | with_reducible refine Go.is1 ?_
  | with_reducible refine Go.itR2 ?_
  | with_reducible refine Go.is2 ?_
  | ((with_reducible refine' Go.r2 ?h ?_); (case h => omega))
  | ((with_reducible refine' Go.r1 ?h1 ?h2 ?_); (case h1 => omega); (case h2 => omega))
  | ((with_reducible refine' Go.hasL ?h ?_); (case h => tm_at "hpL"))
  | ((with_reducible refine' Go.hasT ?h ?_); (case h => tm_at "hpT"))
  | with_reducible refine Go.lst ?_
  | with_reducible refine Go.tup ?_
  | ((with_reducible refine And.intro ?l ?_); (case l => first | exact Nat.le_of_ble_eq_true rfl | exact (rfl : (_ : L2.St) = _)))
  | with_reducible refine Go.sl ?_
  | with_reducible refine Go.noPart ?_
  | with_reducible refine Go.part ?_
  | with_reducible refine Go.isI ?_
  | ((with_reducible refine' Go.slL ?h ?e ?_); (case h => tm_at "hpL"); (case e => first | rfl))
  | with_reducible refine Go.andV ?_
  | with_reducible refine Go.orV ?_
  | with_reducible refine Go.notV ?_
  | with_reducible refine Go.ife ?_
  | with_reducible refine Go.chain ?_
  | with_reducible refine Go.isN ?_
  | with_reducible refine Go.callN ?_
  | ((with_reducible refine' Go.okN ?h1 ?h2 ?e ?_); (case h1 => rfl); (case h2 => rfl); (case e => (simp only [List.nil_append, List.cons_append, List.getD_cons_zero, List.getD_cons_succ]; (first | done | rfl))))
  | ((with_reducible refine' Go.rep ?h ?h1 ?h2 ?h3 ?e ?_); (case h => tm_at "hpO"); (case h1 => omega); (case h2 => omega); (case h3 => exact Nat.le_of_ble_eq_true rfl); (case e => rfl))
  | ((with_reducible refine' Go.cat ?h1 ?h2 ?h3 ?e ?_); (case h1 => tm_at "hpO"); (case h2 => tm_at "hpO"); (case h3 => exact Nat.le_of_ble_eq_true rfl); (case e => tm_at "set"))
  | ((with_reducible refine' Go.addS ?h ?_); (case h => first | assumption | exact Go.le_line (by omega) | (refine' Go.le_line (Nat.le_trans (Nat.add_le_add ?a ?b) ?c); (case a => tm_at "szs"); (case b => tm_at "szs"); (case c => exact Nat.le_of_ble_eq_true rfl))))
  | ((with_reducible refine' Go.ixS ?h ?g ?_); (case h => first | assumption | exact Go.le_line (by omega) | exact (show Array.size _ ≤ _ by decide +kernel)); (case g => tm_at "idx"))
  | ((with_reducible refine' Go.ixSm ?h ?g ?f ?_); (case h => first | assumption | exact Go.le_line (by omega) | exact (show Array.size _ ≤ _ by decide +kernel)); (case g => omega); (case f => omega); intro _ _)
  | ((with_reducible refine' Go.slS ?h ?_); (case h => first | assumption | exact Go.le_line (by omega)))
  | with_reducible refine Go.star ?_
  | ((with_reducible refine' Go.isStT ?h ?_); (case h => tm_at "hpT"))
  | ((with_reducible refine' Go.isStL ?h ?_); (case h => tm_at "hpL"))
  | ((with_reducible refine' Go.slT ?h ?w ?e ?_); (case h => tm_at "hpT"); (case w => first | exact fun h => Nat.ne_of_beq_eq_false rfl h.2 | exact fun h => Nat.ne_of_beq_eq_false rfl h.1); (case e => rfl))
  | ((with_reducible refine' Go.allL ?h ?_); (case h => tm_at "hpL"))
  | ((with_reducible refine' Go.anyL ?h ?_); (case h => tm_at "hpL"))
  | with_reducible refine Go.notN ?_
  | with_reducible refine Go.un ?_
  | with_reducible refine Go.u1 ?_
  | with_reducible refine Go.brk ?_
  | with_reducible refine Go.cont ?_
  | with_reducible refine Go.retN ?_
  | with_reducible refine Go.par ?_
  | ((with_reducible refine' Go.par2 ?h ?_); (case h => tm_at "set"))
  | with_reducible refine Go.par3 ?_
  | ((with_reducible refine' Go.par33 ?h ?_); (case h => tm_at "set"))
  | ((with_reducible refine' Go.gtup ?h ?l ?_); (case h => tm_at "hpT"); (case l => rfl))
  | with_reducible refine Go.gcons ?_
  | with_reducible refine Go.gnil ?_
  | with_reducible refine Go.eqB ?_
  | with_reducible refine Go.neB ?_
  | with_reducible refine Go.wn ?_
  | with_reducible refine Go.wT ?_
  | with_reducible refine Go.wF ?_
  | ((with_reducible refine' Go.wayT ?e ?_); (case e => first | assumption | (simp only [Bool.or_false, Bool.or_true, Bool.false_or, Bool.true_or, Bool.and_false, Bool.and_true, Bool.false_and, Bool.true_and, Bool.not_false, Bool.not_true, decide_true, decide_false, reduceCtorEq, eq_self, not_true_eq_false, not_false_eq_true]; done)))
  | ((with_reducible refine' Go.wayF ?e ?_); (case e => first | assumption | (simp only [Bool.or_false, Bool.or_true, Bool.false_or, Bool.true_or, Bool.and_false, Bool.and_true, Bool.false_and, Bool.true_and, Bool.not_false, Bool.not_true, decide_true, decide_false, reduceCtorEq, eq_self, not_true_eq_false, not_false_eq_true]; done)))
  | ((with_reducible refine' Go.wd ?_ ?_) <;> intro _ <;> (try (exfalso; omega; done)))
  | tm_at "sp"
  | ((with_reducible refine' Go.wayT ?e ?_); (case e => exact rfl))
  | ((with_reducible refine' Go.wayF ?e ?_); (case e => exact rfl))
  | ((with_reducible refine' Go.wb ?_ ?_) <;> intro _))
local macro_rules | `(tactic| tm_at "wipe") => `(tactic| (simp only [List.map, wipe, List.set_cons_succ, List.set_cons_zero]; (first | done | rfl)))
local macro_rules | `(tactic| tm_at "lcEnd") => `(tactic| ((with_reducible refine' Go.lcEnd ?h ?l ?_); (case h => tm_at "hpO"); (case l => (first | omega | (refine Go.lt_line ?_; simp only [List.length_map, List.length_replicate]; omega) | (refine Go.lt_line ?_; omega))); intro _ _ _))
local macro_rules | `(tactic| tm_at "tru") => `(tactic| refine Go.bE (c := true) (by simp) ?_)
local macro_rules | `(tactic| tm_at "go") => `(tactic| repeat' (tm_at "go1"))

theorem cut_ints (ns : List Int) (k : Nat) : cutV (ns.map V.int) none (some (k : Int)) = (ns.take k).map V.int := by
  unfold cutV
  rw [HT.sIx_none, HT.sIx_nat, List.drop_zero, Nat.sub_zero, List.map_take]
  by_cases h : k ≤ (ns.map V.int).length
  · rw [Nat.min_eq_left h]
  · rw [Nat.min_eq_right (by omega), List.take_length, List.take_of_length_le (by omega)]
theorem int_of_map {ns : List Int} {i : Nat} {y : V} (hi : (ns.map V.int)[i]? = some y) : ∃ u, y = V.int u := by
  rw [List.getElem?_map] at hi
  cases e : ns[i]? with
  | none => rw [e] at hi; cases hi
  | some u => rw [e] at hi; exact ⟨u, (Option.some.inj hi).symm⟩
theorem mem_at {α : Type} {xs : List α} {d : Int} (h0 : 0 ≤ d) (h1 : d < xs.length) : ∃ v, atI xs d = some v ∧ v ∈ xs := by
  obtain ⟨j, rfl⟩ : ∃ j : Nat, d = (j : Int) := ⟨d.toNat, by omega⟩
  have hj : j < xs.length := by omega
  exact ⟨xs[j], atI_nat (List.getElem?_eq_getElem hj), List.getElem_mem hj⟩

section
variable {P : Program} {w : World} {K : PySem.W.Frag} {mg : Str → Option Value} {base : Heap} {Z : Fs}
/-! ### _law_bag -/
def sp_law_bag (K : PySem.W.Frag) : Sp := fun vs H Q _ => ∃ (a : Addr) (ns : List Int), vs = [.ref a] ∧ SqL K H a (ns.map V.int) ∧ ns.length ≤ 63 ∧ ∀ (H' : Hp) (b l : Addr), Same H H' → H b = none → H l = none → Bag H' b l → Q (.ref b) H'
theorem ok_law_bag (T : Txt K w mg Z) : FnOk P w K mg base CX0 1 Z.a_law_bag Z.d_law_bag ["_law_script"] (sp_law_bag K) := by
  refine T.F_law_bag.ok sc_law_bag (fun vs H Q E h => ?_) (fun cdv A outer s H vs Q E hr h => ?_)
  · obtain ⟨a, ns, rfl, _⟩ := h
    rfl
  · obtain ⟨a, ns, rfl, hS, hlen, k⟩ := h
    refine ⟨_, (pss_cons (ps_set (i := 1) sc_law_bag.nd rfl (Or.inl rfl) pe_int)
      (pss_cons (ps_for PassesOwn.never rfl (pi_list (pe_slice (sl_list : SlR _ (rSlL K)) (pv 0) po_none (po_some pe_int))) (pg_name (i := 2) sc_law_bag.nd rfl (Or.inl rfl)) (pss_one (ps_set (i := 1) sc_law_bag.nd rfl (Or.inl rfl) (pe_op op_mod (pe_callTy Go.c_int (by rfl) T.n_int boot_int (pa_cons (pe_op op_add (pe_op op_add (pe_op op_mul (pv 1) pe_int) (pe_op op_mod (pe_callTy Go.c_int (by rfl) T.n_int boot_int (pa_cons (pv 2) pa_nil)) pe_int)) pe_int) pa_nil)) pe_int))))
      (pss_one (ps_ret (pe_lst (pa_cons (pe_callTy Go.c_list (by rfl) T.n_list boot_list (pa_cons (pe_slice (sl_list : SlR _ (rSlL K)) (pv 0) po_none (po_some pe_int)) pa_nil)) (pa_cons pe_int (pa_cons pe_int (pa_cons (pv 1) (pa_cons pe_int pa_nil)))))))))), ?_⟩
    refine ⟨.ref a, rfl, 63, rfl, a, ns.map V.int, rfl, hS, fun p hp => ?_⟩
    have s1 : Same H (upd H p (.lst (cutV (ns.map V.int) none (some 63)))) := Same.new hp
    have ec : cutV (ns.map V.int) none (some 63) = (ns.take 63).map V.int := cut_ints ns 63
    refine ⟨p, rfl, ⟨_, SqL.of upd_same⟩, for_list (K := K) (a := p) (xs := cutV (ns.map V.int) none (some 63)) (fun i σ H' => ∃ (m : Int) (v : Option V), σ = [some (.ref a), some (.int m), v] ∧ Same (upd H p (.lst (cutV (ns.map V.int) none (some 63)))) H' ∧ 0 ≤ m ∧ m < 2147483629)
      ⟨12026, none, rfl, Same.refl _, by decide, by decide⟩ (fun i σ H' _ ⟨_, _, _, s2, _⟩ => SqL.of (s2 _ _ upd_same)) ?_ ?_⟩
    · rintro i y σ H' hi ⟨m, v, rfl, s2, h0, h1⟩
      rw [ec] at hi
      obtain ⟨u, rfl⟩ := int_of_map hi
      refine ⟨_, rfl, _, _, rfl, rfl, .inr ⟨by decide, by decide⟩, _, rfl, .inl ⟨_, rfl, _, _, rfl, rfl, (by show (0 : Int) < 2147483563; decide), _, _, rfl, rfl, _, _, rfl, rfl, .inl ⟨_, rfl, _, _, rfl, rfl, (by show (0 : Int) < 2147483629; decide), ?_⟩⟩⟩
      exact ⟨_, _, rfl, s2, Int.emod_nonneg _ (by decide), Int.emod_lt_of_pos _ (by decide)⟩
    · rintro σ H' ⟨m, v, rfl, s2, h0, h1⟩
      refine ⟨.ref a, rfl, 63, rfl, a, ns.map V.int, rfl, (s1.trans s2).seq hS, fun q hq => ⟨q, _, rfl, .inl (SqL.of upd_same), fun l hl => ⟨_, rfl, (by show 5 ≤ sizeLine; decide), fun b hb => ?_⟩⟩⟩
      have nlb : l ≠ b := fun e => by
        rw [← e, upd_same] at hb
        cases hb
      have s3 := ((s1.trans s2).trans (Same.new (o := .lst (cutV (ns.map V.int) none (some 63))) hq)).trans (Same.new (o := .lst (cutV (ns.map V.int) none (some 63))) hl)
      refine k _ b l (s3.trans (Same.new hb)) (s3.free hb) (((s1.trans s2).trans (Same.new (o := .lst (cutV (ns.map V.int) none (some 63))) hq)).free hl) ⟨ns.take 63, 0, 0, m, 0, upd_same, ?_, nlb, ?_, by decide, h0, by omega⟩
      · rw [upd_ne nlb, upd_same, ec]
      · rw [List.length_take]
        omega
/-! ### _law_draw -/
def sp_law_draw : Sp := fun vs H Q _ => ∃ (b l : Addr) (d : Int), vs = [.ref b, .int d] ∧ Bag H b l ∧ 0 < d ∧ d < 1073741824 ∧ ∀ (H' : Hp) (v : Int), Stp b H H' → Bag H' b l → 0 ≤ v → v < d → Q (.int v) H'
theorem i_draw {H : Hp} {Q : VK} {E : XK} {b l : Addr} {d : Int} (hB : Bag H b l) (h0 : 0 < d) (h1 : d < 1073741824) (q : ∀ (H' : Hp) (v : Int), Stp b H H' → Bag H' b l → 0 ≤ v → v < d → Q (.int v) H') : sp_law_draw [.ref b, .int d] H Q E := ⟨b, l, d, rfl, hB, h0, h1, q⟩
theorem ok_law_draw (T : Txt K w mg Z) : FnOk P w K mg base CX0 1 Z.a_law_draw Z.d_law_draw ["_law_bag_here", "_law_many"] sp_law_draw := by
  refine T.F_law_draw.ok sc_law_draw (fun vs H Q E h => ?_) (fun cdv A outer s H vs Q E hr h => ?_)
  · obtain ⟨b, l, d, rfl, _⟩ := h
    rfl
  · obtain ⟨b, l, d, rfl, ⟨ns, i, r, m, n, hb, hl, nlb, hlen, r0, m0, m1⟩, d0, d1, k⟩ := h
    refine ⟨_, (pss_cons (ps_asg (pe_op op_add (pe_ix (ix_list : IxR _ (rIxL K)) (pv 0) pe_int (fun _ _ => rfl)) pe_int) (pg_sub (pv 0) pe_int set_list))
      (C8.pss_cut (ps_if (PW.pt (pw_and (pt_cmpR op_eq (pe_ix (ix_list : IxR _ (rIxL K)) (pv 0) pe_int (fun _ _ => rfl)) pe_int (nomark _)) (pw_and1 (pt_cmpR op_lt (pe_ix (ix_list : IxR _ (rIxL K)) (pv 0) pe_int (fun _ _ => rfl)) (pe_callB (Go.c_len : CallR _ _ (Go.RLen K)) (by rfl) T.n_len boot_len (pa_cons (pe_ix (ix_list : IxR _ (rIxL K)) (pv 0) pe_int (fun _ _ => rfl)) pa_nil)) (nomark _))))) (pss_cons (ps_set (i := 2) sc_law_draw.nd rfl (Or.inl rfl) (pe_ix (ix_list : IxR _ (rIxL K)) (pe_ix (ix_list : IxR _ (rIxL K)) (pv 0) pe_int (fun _ _ => rfl)) (pe_ix (ix_list : IxR _ (rIxL K)) (pv 0) pe_int (fun _ _ => rfl)) (fun _ _ => rfl)))
      (pss_cons (ps_asg (pe_op op_add (pe_ix (ix_list : IxR _ (rIxL K)) (pv 0) pe_int (fun _ _ => rfl)) pe_int) (pg_sub (pv 0) pe_int set_list))
      (C8.pss_cut (ps_if (pt_cmpR op_ge (pv 2) (pe_op op_pow pe_int pe_int) (nomark _)) (pss_one (ps_asg (pv 2) (pg_sub (pv 0) pe_int set_list))) pss_nil)
      (pss_one (ps_asg (pe_op op_mod (pe_callTy Go.c_int (by rfl) T.n_int boot_int (pa_cons (pe_op op_add (pe_op op_add (pe_op op_mul (pe_ix (ix_list : IxR _ (rIxL K)) (pv 0) pe_int (fun _ _ => rfl)) pe_int) (pe_op op_mul (pe_op op_mod (pe_callTy Go.c_int (by rfl) T.n_int boot_int (pa_cons (pv 2) pa_nil)) pe_int) pe_int)) pe_int) pa_nil)) pe_int) (pg_sub (pv 0) pe_int set_list)))))) pss_nil)
      (pss_cons (ps_if (pt_cmpR op_gt (pe_ix (ix_list : IxR _ (rIxL K)) (pv 0) pe_int (fun _ _ => rfl)) pe_int (nomark _)) (pss_cons (ps_set (i := 3) sc_law_draw.nd rfl (Or.inl rfl) (pe_op op_mod (pe_callTy Go.c_int (by rfl) T.n_int boot_int (pa_cons (pe_ix (ix_list : IxR _ (rIxL K)) (pv 0) pe_int (fun _ _ => rfl)) pa_nil)) (pv 1)))
      (pss_cons (ps_asg (pe_op op_fdiv (pe_callTy Go.c_int (by rfl) T.n_int boot_int (pa_cons (pe_ix (ix_list : IxR _ (rIxL K)) (pv 0) pe_int (fun _ _ => rfl)) pa_nil)) (pv 1)) (pg_sub (pv 0) pe_int set_list))
      (pss_one (ps_ret (pv 3))))) pss_nil)
      (pss_cons (ps_set (i := 4) sc_law_draw.nd rfl (Or.inl rfl) (pe_ix (ix_list : IxR _ (rIxL K)) (pv 0) pe_int (fun _ _ => rfl)))
      (pss_cons (ps_asg (pe_op op_mod (pe_callTy Go.c_int (by rfl) T.n_int boot_int (pa_cons (pe_op op_add (pe_op op_add (pe_op op_add (pe_op op_pow (pv 4) pe_int) (pe_op op_mul (pv 4) pe_int)) (pe_op op_mul (pe_ix (ix_list : IxR _ (rIxL K)) (pv 0) pe_int (fun _ _ => rfl)) pe_int)) pe_int) pa_nil)) pe_int) (pg_sub (pv 0) pe_int set_list))
      (pss_one (ps_ret (pe_op op_mod (pe_callTy Go.c_int (by rfl) T.n_int boot_int (pa_cons (pe_op op_add (pe_op op_fdiv (pe_ix (ix_list : IxR _ (rIxL K)) (pv 0) pe_int (fun _ _ => rfl)) pe_int) (pe_op op_mul (pe_op op_mod (pe_callTy Go.c_int (by rfl) T.n_int boot_int (pa_cons (pe_ix (ix_list : IxR _ (rIxL K)) (pv 0) pe_int (fun _ _ => rfl)) pa_nil)) pe_int) pe_int)) pa_nil)) (pv 1))))))))), ?_⟩
    rw [show L2.start N_law_draw [V.ref b, V.int d] = [some (V.ref b), some (V.int d), none, none, none] from rfl]
    try dsimp only [cxOf, Cx.nox]
    tm_at "go"
    refine Go.cut (fun σ' H' => ∃ (y2 : Option V), σ' = [some (.ref b), some (.int d), y2, none, none] ∧ Stp b H H' ∧ Bag H' b l) ?_ ?_
    · tm_at "go"
      · rename_i hi
        have hi' : i < ns.length := by
          rw [List.length_map] at hi
          omega
        have gi : atI (ns.map V.int) (i : Int) = some (.int ns[i]) := atI_nat (by rw [List.getElem?_map, List.getElem?_eq_getElem hi']; rfl)
        tm_at "go"
        refine Go.cut (fun σ' H' => ∃ (r : Int), σ' = [some (.ref b), some (.int d), some (.int ns[i]), none, none] ∧ Stp b H H' ∧ 0 ≤ r ∧ H' b = some (.lst [.ref l, .int ((i + 1 : Nat) : Int), .int r, .int m, .int (n + 1)])) ?_ ?_
        · tm_at "go"
          · have e10 : (10 : Int) ^ Int.toNat 18 = 1000000000000000000 := by decide
            exact ⟨ns[i], rfl, by tm_at "but", by omega, by assumption⟩
          · exact ⟨r, rfl, by tm_at "but", by omega, by assumption⟩
        · rintro σ1 H1 ⟨r, rfl, s1, r0, e1⟩
          tm_at "go"
          exact ⟨_, rfl, by tm_at "but", ns, i + 1, r, _, _, by assumption, by tm_at "hpO", nlb, hlen, r0, by omega, by omega⟩
      · exact ⟨_, rfl, by tm_at "but", ns, i, r, _, _, by assumption, by tm_at "hpO", nlb, hlen, r0, by omega, by omega⟩
      · exact ⟨_, rfl, by tm_at "but", ns, i, r, _, _, by assumption, by tm_at "hpO", nlb, hlen, r0, by omega, by omega⟩
    · rintro σ' H1 ⟨y2, rfl, s1, ns, i, r, m, n, hb1, hl1, nlb, hlen, r0, m0, m1⟩
      tm_at "go"
      · exact k _ _ (by tm_at "but") ⟨ns, i, r / d, m, n, by assumption, by tm_at "hpO", nlb, hlen, Int.ediv_nonneg r0 (Int.le_of_lt d0), m0, m1⟩ (Int.emod_nonneg _ (by omega)) (Int.emod_lt_of_pos _ d0)
      · exact k _ _ (by tm_at "but") ⟨ns, i, r, _, n, by assumption, by tm_at "hpO", nlb, hlen, r0, by omega, by omega⟩ (Int.emod_nonneg _ (by omega)) (Int.emod_lt_of_pos _ d0)
end

/-! ### data: what a value stands for; none of its lists is the bag -/
/-- a text of ordinary size and signs -/
def StrK (z : Str) : Prop := z.cps.size ≤ 100000 ∧ ∀ c ∈ z.cps.toList, c < 1114112
mutual
inductive Dt (K : PySem.W.Frag) (H : Hp) (b : Addr) : V → PyData → Prop
  | non : Dt K H b .non .none
  | bl (k : Bool) : Dt K H b (.bl k) (.bool k)
  | int (i : Int) : Dt K H b (.int i) (.int i)
  | str {z : Str} (h : StrK z) : Dt K H b (.str z) (.str z)
  | lst {a : Addr} {xs : List V} {ds : List PyData} : SqL K H a xs → a ≠ b → xs.length ≤ 100000 → DtA K H b xs ds → Dt K H b (.ref a) (.list ds)
  | tup {a : Addr} {xs : List V} {ds : List PyData} : SqT K H a xs → a ≠ b → xs.length ≤ 100000 → DtA K H b xs ds → Dt K H b (.ref a) (.tuple ds)
inductive DtA (K : PySem.W.Frag) (H : Hp) (b : Addr) : List V → List PyData → Prop
  | nil : DtA K H b [] []
  | cons {v : V} {vs : List V} {d : PyData} {ds : List PyData} : Dt K H b v d → DtA K H b vs ds → DtA K H b (v :: vs) (d :: ds)
end
mutual
theorem Dt.but {K : PySem.W.Frag} {H H' : Hp} {b : Addr} (s : Go.But b H H') : ∀ {v : V} {d : PyData}, Dt K H b v d → Dt K H' b v d
  | _, _, .non => .non
  | _, _, .bl k => .bl k
  | _, _, .int i => .int i
  | _, _, .str h => .str h
  | _, _, .lst h n l r => .lst (Go.lB s n h) n l (DtA.but s r)
  | _, _, .tup h n l r => .tup (Go.tB s n h) n l (DtA.but s r)
theorem DtA.but {K : PySem.W.Frag} {H H' : Hp} {b : Addr} (s : Go.But b H H') : ∀ {v : List V} {d : List PyData}, DtA K H b v d → DtA K H' b v d
  | _, _, .nil => .nil
  | _, _, .cons h r => .cons (Dt.but s h) (DtA.but s r)
end
theorem Dt.same {K : PySem.W.Frag} {H H' : Hp} {b : Addr} (s : Same H H') {v : V} {d : PyData} (h : Dt K H b v d) : Dt K H' b v d := h.but (Go.sb s)
theorem DtA.len {K : PySem.W.Frag} {H : Hp} {b : Addr} : ∀ {xs : List V} {ds : List PyData}, DtA K H b xs ds → xs.length = ds.length
  | _, _, .nil => rfl
  | _, _, .cons _ r => congrArg (· + 1) r.len
theorem DtA.get {K : PySem.W.Frag} {H : Hp} {b : Addr} : ∀ {xs : List V} {ds : List PyData}, DtA K H b xs ds → ∀ {i : Nat} {v : V}, xs[i]? = some v → ∃ d, ds[i]? = some d ∧ Dt K H b v d
  | _, _, .nil, _, _, h => by cases h
  | _, _, .cons h _, 0, _, e => by
    cases e
    exact ⟨_, rfl, h⟩
  | _, _, .cons _ r, i + 1, v, e => r.get (i := i) e
/-! how deep -/
mutual
def dep : PyData → Nat
  | .list xs => depA xs + 1
  | .tuple xs => depA xs + 1
  | _ => 0
def depA : List PyData → Nat
  | [] => 0
  | x :: xs => max (dep x) (depA xs)
end
theorem dep_le : ∀ {xs : List PyData} {i : Nat} {d : PyData}, xs[i]? = some d → dep d ≤ depA xs
  | [], _, _, h => by cases h
  | x :: xs, 0, d, h => by
    cases h
    unfold depA
    exact Nat.le_max_left _ _
  | x :: xs, i + 1, d, h => by
    unfold depA
    exact Nat.le_trans (dep_le (xs := xs) (i := i) h) (Nat.le_max_right _ _)
theorem tyx_l {K : PySem.W.Frag} {H : Hp} {a : Addr} {xs : List V} (h : SqL K H a xs) : TyX K H (.ref a) (.type "list") := by
  rcases h with (h | ⟨o, h⟩) | ⟨o, its, n, h, hc, _⟩
  · exact .base (.lst h)
  · exact .base (.frz h)
  · exact .kList h hc
theorem tyx_t {K : PySem.W.Frag} {H : Hp} {a : Addr} {xs : List V} (h : SqT K H a xs) : TyX K H (.ref a) (.type "tuple") := by
  rcases h with (h | ⟨o, h⟩) | ⟨o, its, n, h, hc, _⟩
  · exact .base (.tup h)
  · exact .fTuple h
  · exact .kTuple h hc
local macro_rules | `(tactic| tm_at "dt") => `(tactic| first | assumption | exact Dt.non | exact Dt.bl _ | exact Dt.int _ | (refine' Dt.same (by assumption) ?z0; (case z0 => tm_at "dt")) | (refine' Dt.but (by assumption) ?z0; (case z0 => tm_at "dt")))
local macro_rules | `(tactic| tm_at "tyx") => `(tactic| first | assumption | exact .base .non | exact .base (.bl _) | exact .base (.int _) | exact .base (.str _) | (refine' tyx_t ?z0; (case z0 => tm_at "hpT")) | (refine' tyx_l ?z0; (case z0 => tm_at "hpL")))
local macro_rules | `(tactic| tm_at "kit") => `(tactic| first | assumption | exact kit_ty (show kitB _ _ = some false by decide +kernel) | exact kit_ty (show kitB _ _ = some true by decide +kernel))
local macro_rules | `(tactic| tm_at "kitB") => `(tactic| first | exact (show kitB _ _ = some false by decide +kernel) | exact (show kitB _ _ = some true by decide +kernel))
theorem kitA2 {K : PySem.W.Frag} {T A B : String} {a b : Bool} (h1 : kitB T A = some a) (h2 : kitB T B = some b) : PySem.W.kitAny K (.type T) [.type A, .type B] = some (a || b) := by
  cases a with
  | true => exact kitAny_cons (b := true) (kit_ty h1) (fun e => nomatch e) fun _ => rfl
  | false =>
    refine kitAny_cons (b := false) (kit_ty h1) (fun _ => ?_) fun e => nomatch e
    cases b with
    | true => exact kitAny_cons (b := true) (kit_ty h2) (fun e => nomatch e) fun _ => rfl
    | false => exact kitAny_cons (b := false) (kit_ty h2) (fun _ => kitAny_nil) fun e => nomatch e
theorem isi2 {K : PySem.W.Frag} {H : Hp} {Q : VK} {x : V} {tp : Addr} {T A B : String} {a b : Bool} (h : H tp = some (.tup [.ty A, .ty B])) (h1 : TyX K H x (.type T)) (h2 : kitB T A = some a) (h3 : kitB T B = some b) (q : Q (.bl (a || b)) H) : rIsiT K [x, .ref tp] H Q :=
  ⟨x, tp, _, _, _, _, rfl, h, .cons (.ty _) (.cons (.ty _) .nil), h1, kitA2 h2 h3, q⟩
local macro_rules | `(tactic| tm_at "sp") => `(tactic| first
  | ((with_reducible refine' Go.isi ?a ?b ?c ?_); (case a => exact .ty _); (case b => tm_at "tyx"); (case c => tm_at "kit"))
  | ((with_reducible refine' isi2 ?a ?b ?c ?d ?_); (case a => tm_at "hpO"); (case b => tm_at "tyx"); (case c => tm_at "kitB"); (case d => tm_at "kitB")))
section
variable {P : Program} {w : World} {K : PySem.W.Frag} {mg : Str → Option Value} {base : Heap} {Z : Fs}
/-! ### _law_same -/
def sp_law_same (K : PySem.W.Frag) (n : Nat) : Sp := fun vs H Q _ => ∃ (x y : V) (b : Addr) (d : PyData), vs = [x, y] ∧ Dt K H b x d ∧ Dt K H b y d ∧ dep d ≤ n ∧ ∀ H' : Hp, Same H H' → Q (.bl true) H'
theorem i_same {n : Nat} {H : Hp} {Q : VK} {E : XK} {x y : V} {b : Addr} {d : PyData} (h1 : Dt K H b x d) (h2 : Dt K H b y d) (h3 : dep d ≤ n) (q : ∀ H' : Hp, Same H H' → Q (.bl true) H') : sp_law_same K n [x, y] H Q E := ⟨x, y, b, d, rfl, h1, h2, h3, q⟩
theorem ok_law_same (T : Txt K w mg Z) : ∀ n : Nat, FnOk P w K mg base CX0 (n + 1) Z.a_law_same Z.d_law_same ["_law_found", "_law_due"] (sp_law_same K n)
  | 0 => by
    refine T.F_law_same.ok sc_law_same (fun vs H Q E h => ?_) (fun cdv A outer s H vs Q E hr h => ?_)
    · obtain ⟨x, y, b, d, rfl, _⟩ := h
      rfl
    · obtain ⟨x, y, b, d, rfl, hx, hy, hd, k⟩ := h
      refine ⟨_, (pss_cons (ps_if (pt_val (pe_callB (call_isi : CallR _ _ (rIsi K)) (by rfl) T.n_isinstance boot_isinstance (pa_cons (pv 1) (pa_cons (pe_bltn (v := .ty "dict") (by rfl) T.n_dict boot_dict rfl) pa_nil)))) pss_never pss_nil)
      (pss_cons (ps_if (pt_val (pe_callB (call_isiT : CallR _ _ (rIsiT K)) (by rfl) T.n_isinstance boot_isinstance (pa_cons (pv 1) (pa_cons (pe_tup (pa_cons (pe_bltn (v := .ty "list") (by rfl) T.n_list boot_list rfl) (pa_cons (pe_bltn (v := .ty "tuple") (by rfl) T.n_tuple boot_tuple rfl) pa_nil))) pa_nil)))) pss_never pss_nil)
      (pss_cons (ps_if (PW.pt (pw_or (pt_cmp (pc_isN (pv 1))) (pw_or1 (pt_cmp (pc_isN (pv 0)))))) (pss_one (ps_ret (pe_and (pe_cmp (pc_isN (pv 1)) rfl) (pe_one (pe_cmp (pc_isN (pv 0)) rfl))))) pss_nil)
      (pss_cons (ps_if (PW.pt (pw_or (pt_cmpR op_ne (pe_callB (call_isi : CallR _ _ (rIsi K)) (by rfl) T.n_isinstance boot_isinstance (pa_cons (pv 0) (pa_cons (pe_bltn (v := .ty "bool") (by rfl) T.n_bool boot_bool rfl) pa_nil))) (pe_callB (call_isi : CallR _ _ (rIsi K)) (by rfl) T.n_isinstance boot_isinstance (pa_cons (pv 1) (pa_cons (pe_bltn (v := .ty "bool") (by rfl) T.n_bool boot_bool rfl) pa_nil))) (nomark _)) (pw_or1 (pt_cmpR op_ne (pe_callB (call_isi : CallR _ _ (rIsi K)) (by rfl) T.n_isinstance boot_isinstance (pa_cons (pv 0) (pa_cons (pe_bltn (v := .ty "int") (by rfl) T.n_int boot_int rfl) pa_nil))) (pe_callB (call_isi : CallR _ _ (rIsi K)) (by rfl) T.n_isinstance boot_isinstance (pa_cons (pv 1) (pa_cons (pe_bltn (v := .ty "int") (by rfl) T.n_int boot_int rfl) pa_nil))) (nomark _))))) (pss_one (ps_ret pe_bl)) pss_nil)
      (pss_one (ps_ret (pe_and (pe_cmpR op_eq (pe_callB (call_isi : CallR _ _ (rIsi K)) (by rfl) T.n_isinstance boot_isinstance (pa_cons (pv 0) (pa_cons (pe_bltn (v := .ty "str") (by rfl) T.n_str boot_str rfl) pa_nil))) (pe_callB (call_isi : CallR _ _ (rIsi K)) (by rfl) T.n_isinstance boot_isinstance (pa_cons (pv 1) (pa_cons (pe_bltn (v := .ty "str") (by rfl) T.n_str boot_str rfl) pa_nil))) (nomark _)) (pe_one (pe_cmpR op_eq (pv 0) (pv 1) (nomark _)))))))))), ?_⟩
      rw [show L2.start N_law_same [x, y] = [some (x), some (y), none, none, none] from rfl]
      try dsimp only [cxOf, Cx.nox]
      cases hx with
      | non => cases hy; tm_at "go"; tm_at "tru"; exact k _ (by tm_at "same")
      | bl v => cases hy; tm_at "go"; tm_at "tru"; exact k _ (by tm_at "same")
      | int v => cases hy; tm_at "go"; tm_at "tru"; exact k _ (by tm_at "same")
      | str v => cases hy; tm_at "go"; tm_at "tru"; exact k _ (by tm_at "same")
      | lst _ _ _ _ => exact absurd hd (by simp [dep])
      | tup _ _ _ _ => exact absurd hd (by simp [dep])
  | n + 1 => by
    have G_law_same : FnOk P w K mg base CX0 (n + 1) Z.a_law_same Z.d_law_same ["_law_found", "_law_due"] (sp_law_same K n) := ok_law_same T n
    refine T.F_law_same.ok sc_law_same (fun vs H Q E h => ?_) (fun cdv A outer s H vs Q E hr h => ?_)
    · obtain ⟨x, y, b, d, rfl, _⟩ := h
      rfl
    · obtain ⟨x, y, b, d, rfl, hx, hy, hd, k⟩ := h
      refine ⟨_, (pss_cons (ps_if (pt_val (pe_callB (call_isi : CallR _ _ (rIsi K)) (by rfl) T.n_isinstance boot_isinstance (pa_cons (pv 1) (pa_cons (pe_bltn (v := .ty "dict") (by rfl) T.n_dict boot_dict rfl) pa_nil)))) pss_never pss_nil)
      (pss_cons (ps_if (pt_val (pe_callB (call_isiT : CallR _ _ (rIsiT K)) (by rfl) T.n_isinstance boot_isinstance (pa_cons (pv 1) (pa_cons (pe_tup (pa_cons (pe_bltn (v := .ty "list") (by rfl) T.n_list boot_list rfl) (pa_cons (pe_bltn (v := .ty "tuple") (by rfl) T.n_tuple boot_tuple rfl) pa_nil))) pa_nil)))) (pss_cons (ps_if (PW.pt (pw_or (pt_cmpR op_ne (pe_callB (call_isi : CallR _ _ (rIsi K)) (by rfl) T.n_isinstance boot_isinstance (pa_cons (pv 0) (pa_cons (pe_bltn (v := .ty "list") (by rfl) T.n_list boot_list rfl) pa_nil))) (pe_callB (call_isi : CallR _ _ (rIsi K)) (by rfl) T.n_isinstance boot_isinstance (pa_cons (pv 1) (pa_cons (pe_bltn (v := .ty "list") (by rfl) T.n_list boot_list rfl) pa_nil))) (nomark _)) (pw_or1 (pt_cmpR op_ne (pe_callB (call_isi : CallR _ _ (rIsi K)) (by rfl) T.n_isinstance boot_isinstance (pa_cons (pv 0) (pa_cons (pe_bltn (v := .ty "tuple") (by rfl) T.n_tuple boot_tuple rfl) pa_nil))) (pe_callB (call_isi : CallR _ _ (rIsi K)) (by rfl) T.n_isinstance boot_isinstance (pa_cons (pv 1) (pa_cons (pe_bltn (v := .ty "tuple") (by rfl) T.n_tuple boot_tuple rfl) pa_nil))) (nomark _))))) (pss_one (ps_ret pe_bl)) pss_nil)
      (pss_one (ps_ret (pe_and (pe_cmpR op_eq (pe_callB (Go.c_len : CallR _ _ (Go.RLen K)) (by rfl) T.n_len boot_len (pa_cons (pv 0) pa_nil)) (pe_callB (Go.c_len : CallR _ _ (Go.RLen K)) (by rfl) T.n_len boot_len (pa_cons (pv 1) pa_nil)) (nomark _)) (pe_one (pe_callB (cr_all rfl) (by rfl) T.n_all boot_all (pa_cons (pe_lc (own := [("_law_one", 3), ("_law_two", 4)]) (g := gTup K 2 (gCons (gName 3) (gCons (gName 4) gNil))) (tt := tYes) rfl sc_law_same.nd (RZ.pi_zipA (by rfl) T.n_zip (pa_cons (pv 0) (pa_cons (pv 1) pa_nil))) (blkOk_by (N := N_law_same) (sc := defScope s_law_same) (by decide +kernel)) (fun _ _ _ _ _ => pg_tup rfl (pgs_cons (pg_name (i := 3) sc_law_same.nd rfl (Or.inl rfl)) (pgs_cons (pg_name (i := 4) sc_law_same.nd rfl (Or.inl rfl)) pgs_nil))) (fun _ _ _ _ _ => pts_nil) (fun _ _ _ _ _ => (pe_call G_law_same (hr.mono (by omega)) (by rfl) T.m_law_same T.F_law_same.kp T.b_law_same .nil pass0 (pa_cons (pv 3) (pa_cons (pv 4) pa_nil))))) pa_nil))))))) pss_nil)
      (pss_cons (ps_if (PW.pt (pw_or (pt_cmp (pc_isN (pv 1))) (pw_or1 (pt_cmp (pc_isN (pv 0)))))) (pss_one (ps_ret (pe_and (pe_cmp (pc_isN (pv 1)) rfl) (pe_one (pe_cmp (pc_isN (pv 0)) rfl))))) pss_nil)
      (pss_cons (ps_if (PW.pt (pw_or (pt_cmpR op_ne (pe_callB (call_isi : CallR _ _ (rIsi K)) (by rfl) T.n_isinstance boot_isinstance (pa_cons (pv 0) (pa_cons (pe_bltn (v := .ty "bool") (by rfl) T.n_bool boot_bool rfl) pa_nil))) (pe_callB (call_isi : CallR _ _ (rIsi K)) (by rfl) T.n_isinstance boot_isinstance (pa_cons (pv 1) (pa_cons (pe_bltn (v := .ty "bool") (by rfl) T.n_bool boot_bool rfl) pa_nil))) (nomark _)) (pw_or1 (pt_cmpR op_ne (pe_callB (call_isi : CallR _ _ (rIsi K)) (by rfl) T.n_isinstance boot_isinstance (pa_cons (pv 0) (pa_cons (pe_bltn (v := .ty "int") (by rfl) T.n_int boot_int rfl) pa_nil))) (pe_callB (call_isi : CallR _ _ (rIsi K)) (by rfl) T.n_isinstance boot_isinstance (pa_cons (pv 1) (pa_cons (pe_bltn (v := .ty "int") (by rfl) T.n_int boot_int rfl) pa_nil))) (nomark _))))) (pss_one (ps_ret pe_bl)) pss_nil)
      (pss_one (ps_ret (pe_and (pe_cmpR op_eq (pe_callB (call_isi : CallR _ _ (rIsi K)) (by rfl) T.n_isinstance boot_isinstance (pa_cons (pv 0) (pa_cons (pe_bltn (v := .ty "str") (by rfl) T.n_str boot_str rfl) pa_nil))) (pe_callB (call_isi : CallR _ _ (rIsi K)) (by rfl) T.n_isinstance boot_isinstance (pa_cons (pv 1) (pa_cons (pe_bltn (v := .ty "str") (by rfl) T.n_str boot_str rfl) pa_nil))) (nomark _)) (pe_one (pe_cmpR op_eq (pv 0) (pv 1) (nomark _)))))))))), ?_⟩
      rw [show L2.start N_law_same [x, y] = [some (x), some (y), none, none, none] from rfl]
      try dsimp only [cxOf, Cx.nox]
      cases hx with
      | non => cases hy; tm_at "go"; tm_at "tru"; exact k _ (by tm_at "same")
      | bl v => cases hy; tm_at "go"; tm_at "tru"; exact k _ (by tm_at "same")
      | int v => cases hy; tm_at "go"; tm_at "tru"; exact k _ (by tm_at "same")
      | str v => cases hy; tm_at "go"; tm_at "tru"; exact k _ (by tm_at "same")
      | @lst a1 xs ds h1 n1 l1 r1 =>
        cases hy with
        | @lst a2 ys _ h2 n2 l2 r2 =>
          have el : xs.length = ys.length := r1.len.trans r2.len.symm
          tm_at "go"
          · refine Go.lc_w (Go.walkZ (K := K) (xs := xs) (ys := ys) (n := xs.length) (by omega)) (fun D i H' => Same H H' ∧ H D = none ∧ i ≤ 100000 ∧ H' D = some (.lst ((List.replicate i true).map V.bl))) (by tm_at "wipe") ?_ ?_ ?_ ?_
            · intro D H2 n0 s2 e2
              exact ⟨by tm_at "same", by tm_at "non", by omega, e2⟩
            · intro D i H2 hi ⟨s2, _, _, e2⟩
              exact ⟨by tm_at "hpL", by tm_at "hpL"⟩
            · rintro D i v H2 H3 hi ⟨s2, nD, li, e2⟩ ⟨T1, u, t, rfl, hT, s3, eT, hu, ht⟩
              obtain ⟨du, e3, hu'⟩ := r1.get hu
              obtain ⟨dt, e4, ht'⟩ := r2.get ht
              rw [e3] at e4
              cases e4
              have hdd : dep du ≤ n := by
                have q := dep_le e3
                simp only [dep] at hd
                omega
              tm_at "go"
              refine i_same (b := b) (d := du) (by tm_at "dt") (by tm_at "dt") hdd fun H5 s5 => ?_
              tm_at "lcEnd"
              refine ⟨by tm_at "same", nD, by omega, ?_⟩
              rename_i e6
              rw [e6, List.replicate_succ', List.map_append]
              rfl
            · rintro D H2 ⟨s2, nD, li, e2⟩
              tm_at "go"
              rw [Go.all_rep]
              exact k _ s2
      | @tup a1 xs ds h1 n1 l1 r1 =>
        cases hy with
        | @tup a2 ys _ h2 n2 l2 r2 =>
          have el : xs.length = ys.length := r1.len.trans r2.len.symm
          tm_at "go"
          · refine Go.lc_w (Go.walkZT (K := K) (xs := xs) (ys := ys) (n := xs.length) (by omega)) (fun D i H' => Same H H' ∧ H D = none ∧ i ≤ 100000 ∧ H' D = some (.lst ((List.replicate i true).map V.bl))) (by tm_at "wipe") ?_ ?_ ?_ ?_
            · intro D H2 n0 s2 e2
              exact ⟨by tm_at "same", by tm_at "non", by omega, e2⟩
            · intro D i H2 hi ⟨s2, _, _, e2⟩
              exact ⟨by tm_at "hpT", by tm_at "hpT"⟩
            · rintro D i v H2 H3 hi ⟨s2, nD, li, e2⟩ ⟨T1, u, t, rfl, hT, s3, eT, hu, ht⟩
              obtain ⟨du, e3, hu'⟩ := r1.get hu
              obtain ⟨dt, e4, ht'⟩ := r2.get ht
              rw [e3] at e4
              cases e4
              have hdd : dep du ≤ n := by
                have q := dep_le e3
                simp only [dep] at hd
                omega
              tm_at "go"
              refine i_same (b := b) (d := du) (by tm_at "dt") (by tm_at "dt") hdd fun H5 s5 => ?_
              tm_at "lcEnd"
              refine ⟨by tm_at "same", nD, by omega, ?_⟩
              rename_i e6
              rw [e6, List.replicate_succ', List.map_append]
              rfl
            · rintro D H2 ⟨s2, nD, li, e2⟩
              tm_at "go"
              rw [Go.all_rep]
              exact k _ s2
end

/-! ### what the program says of data -/
theorem take_snoc {α β : Type} (f : α → β) {l : List α} {i : Nat} {x : α} (h : l[i]? = some x) : (l.take (i + 1)).map f = (l.take i).map f ++ [f x] := by
  rw [List.take_add_one, h, List.map_append]
  rfl
def cntD : PyData → Bool
  | .int i => decide (i ≥ 0)
  | _ => false
def isStrD : PyData → Bool
  | .str _ => true
  | _ => false
def strsD (n : Int) : PyData → Bool
  | .tuple ds => decide ((ds.length : Int) = n) && ds.all isStrD
  | _ => false
def numD (lo hi : Int) : PyData → Bool
  | .int i => decide (lo ≤ i) && decide (i ≤ hi)
  | _ => false
def adrD : PyData → Bool
  | .tuple [x, y, z] => cntD x && (strsD 3 y && numD 0 65535 z)
  | _ => false
mutual
theorem Dt.dp {K : PySem.W.Frag} {H : Hp} {b : Addr} : ∀ {v : V} {d : PyData}, Dt K H b v d → Dp K H v d
  | _, _, .non => .non
  | _, _, .bl k => .bl k
  | _, _, .int i => .int i
  | _, _, .str _ => .str _
  | _, _, .lst h _ _ r => .lst h (DtA.dp r)
  | _, _, .tup h _ _ r => .tup h (DtA.dp r)
theorem DtA.dp {K : PySem.W.Frag} {H : Hp} {b : Addr} : ∀ {v : List V} {d : List PyData}, DtA K H b v d → DpAll K H v d
  | _, _, .nil => .nil
  | _, _, .cons h r => .cons (Dt.dp h) (DtA.dp r)
end
mutual
theorem Dt.lay {K : PySem.W.Frag} {H : Hp} {b : Addr} : ∀ {v : V} {d : PyData}, Dt K H b v d → d.canLay0 = true
  | _, _, .non => rfl
  | _, _, .bl k => rfl
  | _, _, .int i => rfl
  | _, _, .str (z := z) h => by
    show (z.cps.all fun c => decide (c < 1114112)) = true
    rw [← Array.all_toList, List.all_eq_true]
    exact fun c hc => decide_eq_true (h.2 c hc)
  | _, _, .lst _ _ _ r => DtA.lay r
  | _, _, .tup _ _ _ r => DtA.lay r
theorem DtA.lay {K : PySem.W.Frag} {H : Hp} {b : Addr} : ∀ {v : List V} {d : List PyData}, DtA K H b v d → PyData.canLayAll0 d = true
  | _, _, .nil => rfl
  | _, _, .cons h r => by
    unfold PyData.canLayAll0
    rw [Dt.lay h, DtA.lay r]
    rfl
end
theorem shp {d : PyData} (h : d.canLay0 = true) (k : decide (d.depth ≤ 64) = true) : SeqAt.shaped d = true := by
  unfold SeqAt.shaped
  rw [h, k]
  rfl
section
variable {P : Program} {w : World} {K : PySem.W.Frag} {mg : Str → Option Value} {base : Heap} {Z : Fs}
def sp_is_number (K : PySem.W.Frag) : Sp := fun vs H Q _ => ∃ (v : V) (lo hi : Int) (b : Addr) (d : PyData), vs = [v, .int lo, .int hi] ∧ Dt K H b v d ∧ ∀ H' : Hp, Same H H' → Q (.bl (numD lo hi d)) H'
theorem i_is_number {H : Hp} {Q : VK} {E : XK} {v : V} {lo hi : Int} {b : Addr} {d : PyData} (h : Dt K H b v d) (q : ∀ H' : Hp, Same H H' → Q (.bl (numD lo hi d)) H') : sp_is_number K [v, .int lo, .int hi] H Q E := ⟨v, lo, hi, b, d, rfl, h, q⟩
theorem ok_is_number (T : Txt K w mg Z) : FnOk P w K mg base CX0 1 Z.a_is_number Z.d_is_number ["value", "least", "most"] (sp_is_number K) := by
  refine T.F_is_number.ok sc_is_number (fun vs H Q E h => ?_) (fun cdv A outer s H vs Q E hr h => ?_)
  · obtain ⟨v, lo, hi, b, d, rfl, _⟩ := h
    rfl
  · obtain ⟨v, lo, hi, b, d, rfl, h, k⟩ := h
    refine ⟨_, (pss_cons (ps_if (PW.pt (pw_or (pt_val (pe_callB (call_isi : CallR _ _ (rIsi K)) (by rfl) T.n_isinstance boot_isinstance (pa_cons (pv 0) (pa_cons (pe_bltn (v := .ty "bool") (by rfl) T.n_bool boot_bool rfl) pa_nil)))) (pw_or1 (pt_not (pt_val (pe_callB (call_isi : CallR _ _ (rIsi K)) (by rfl) T.n_isinstance boot_isinstance (pa_cons (pv 0) (pa_cons (pe_bltn (v := .ty "int") (by rfl) T.n_int boot_int rfl) pa_nil)))))))) (pss_one (ps_ret pe_bl)) pss_nil)
      (pss_one (ps_ret (pe_chain op_le op_le (pv 1) (pv 0) (pv 2))))), ?_⟩
    rw [show L2.start N_is_number [v, V.int lo, V.int hi] = [some (v), some (V.int lo), some (V.int hi)] from rfl]
    try dsimp only [cxOf, Cx.nox]
    cases h <;> tm_at "go"
    all_goals (refine Go.bE ?_ (k _ (Same.refl _)); simp [numD, *])
local macro_rules | `(tactic| tm_at "sp") => `(tactic| ((with_reducible refine' i_is_number ?h ?_); (case h => tm_at "dt"); intro _ _))
def sp_is_word (K : PySem.W.Frag) : Sp := fun vs H Q _ => ∃ (v : V) (b : Addr) (d : PyData), vs = [v] ∧ Dt K H b v d ∧ ∀ H' : Hp, Same H H' → Q (.bl (numD 0 65535 d)) H'
theorem i_is_word {H : Hp} {Q : VK} {E : XK} {v : V} {b : Addr} {d : PyData} (h : Dt K H b v d) (q : ∀ H' : Hp, Same H H' → Q (.bl (numD 0 65535 d)) H') : sp_is_word K [v] H Q E := ⟨v, b, d, rfl, h, q⟩
theorem ok_is_word (T : Txt K w mg Z) : FnOk P w K mg base CX0 2 Z.a_is_word Z.d_is_word ["value"] (sp_is_word K) := by
  have G_is_number := ok_is_number (P := P) (base := base) T
  refine T.F_is_word.ok sc_is_word (fun vs H Q E h => ?_) (fun cdv A outer s H vs Q E hr h => ?_)
  · obtain ⟨v, b, d, rfl, _⟩ := h
    rfl
  · obtain ⟨v, b, d, rfl, h, k⟩ := h
    refine ⟨_, (pss_one (ps_ret (pe_call G_is_number (hr.mono (by omega)) (by rfl) T.m_is_number T.F_is_number.kp T.b_is_number .nil pass0 (pa_cons (pv 0) (pa_cons pe_int (pa_cons (pe_glob (v := .int 65535) (by rfl) (Classical.choose_spec T.g_MOST_WORD) ⟨_, rfl⟩) pa_nil)))))), ?_⟩
    rw [show L2.start N_is_word [v] = [some (v)] from rfl]
    try dsimp only [cxOf, Cx.nox]
    tm_at "go"
    exact k _ (by tm_at "same")
local macro_rules | `(tactic| tm_at "sp") => `(tactic| ((with_reducible refine' i_is_word ?h ?_); (case h => tm_at "dt"); intro _ _))
def sp_wrapped : Sp := fun vs H Q _ => ∃ i : Int, vs = [.int i] ∧ Q (.int (i % 65536)) H
theorem i_wrapped {H : Hp} {Q : VK} {E : XK} {i : Int} (q : Q (.int (i % 65536)) H) : sp_wrapped [.int i] H Q E := ⟨i, rfl, q⟩
theorem ok_wrapped (T : Txt K w mg Z) : FnOk P w K mg base CX0 1 Z.a_wrapped Z.d_wrapped ["value"] sp_wrapped := by
  refine T.F_wrapped.ok sc_wrapped (fun vs H Q E h => ?_) (fun cdv A outer s H vs Q E hr h => ?_)
  · obtain ⟨i, rfl, _⟩ := h
    rfl
  · obtain ⟨i, rfl, k⟩ := h
    refine ⟨_, (pss_one (ps_ret (pe_op op_mod (pv 0) pe_int))), ?_⟩
    rw [show L2.start N_wrapped [V.int i] = [some (V.int i)] from rfl]
    try dsimp only [cxOf, Cx.nox]
    tm_at "go"
    exact k
local macro_rules | `(tactic| tm_at "sp") => `(tactic| ((with_reducible refine' i_wrapped ?_)))
def sp_is_count (K : PySem.W.Frag) : Sp := fun vs H Q _ => ∃ (v : V) (b : Addr) (d : PyData), vs = [v] ∧ Dt K H b v d ∧ ∀ H' : Hp, Same H H' → Q (.bl (cntD d)) H'
theorem i_is_count {H : Hp} {Q : VK} {E : XK} {v : V} {b : Addr} {d : PyData} (h : Dt K H b v d) (q : ∀ H' : Hp, Same H H' → Q (.bl (cntD d)) H') : sp_is_count K [v] H Q E := ⟨v, b, d, rfl, h, q⟩
theorem ok_is_count (T : Txt K w mg Z) : FnOk P w K mg base CX0 1 Z.a_is_count Z.d_is_count ["value"] (sp_is_count K) := by
  refine T.F_is_count.ok sc_is_count (fun vs H Q E h => ?_) (fun cdv A outer s H vs Q E hr h => ?_)
  · obtain ⟨v, b, d, rfl, _⟩ := h
    rfl
  · obtain ⟨v, b, d, rfl, h, k⟩ := h
    refine ⟨_, (pss_one (ps_ret (pe_and (pe_callB (call_isi : CallR _ _ (rIsi K)) (by rfl) T.n_isinstance boot_isinstance (pa_cons (pv 0) (pa_cons (pe_bltn (v := .ty "int") (by rfl) T.n_int boot_int rfl) pa_nil))) (pe_and (pe_not (pe_callB (call_isi : CallR _ _ (rIsi K)) (by rfl) T.n_isinstance boot_isinstance (pa_cons (pv 0) (pa_cons (pe_bltn (v := .ty "bool") (by rfl) T.n_bool boot_bool rfl) pa_nil)))) (pe_one (pe_cmpR op_ge (pv 0) pe_int (nomark _))))))), ?_⟩
    rw [show L2.start N_is_count [v] = [some (v)] from rfl]
    try dsimp only [cxOf, Cx.nox]
    cases h <;> tm_at "go"
    all_goals (refine Go.bE ?_ (k _ (Same.refl _)); simp [cntD])
local macro_rules | `(tactic| tm_at "sp") => `(tactic| ((with_reducible refine' i_is_count ?h ?_); (case h => tm_at "dt"); intro _ _))
def sp_is_strings (K : PySem.W.Frag) : Sp := fun vs H Q _ => ∃ (v : V) (n : Int) (b : Addr) (d : PyData), vs = [v, .int n] ∧ Dt K H b v d ∧ ∀ H' : Hp, Same H H' → Q (.bl (strsD n d)) H'
theorem i_is_strings {H : Hp} {Q : VK} {E : XK} {v : V} {n : Int} {b : Addr} {d : PyData} (h : Dt K H b v d) (q : ∀ H' : Hp, Same H H' → Q (.bl (strsD n d)) H') : sp_is_strings K [v, .int n] H Q E := ⟨v, n, b, d, rfl, h, q⟩
theorem ok_is_strings (T : Txt K w mg Z) : FnOk P w K mg base CX0 1 Z.a_is_strings Z.d_is_strings ["value", "many"] (sp_is_strings K) := by
  refine T.F_is_strings.ok sc_is_strings (fun vs H Q E h => ?_) (fun cdv A outer s H vs Q E hr h => ?_)
  · obtain ⟨v, n, b, d, rfl, _⟩ := h
    rfl
  · obtain ⟨v, n, b, d, rfl, h, k⟩ := h
    refine ⟨_, (pss_cons (ps_if (PW.pt (pw_or (pt_not (pt_val (pe_callB (call_isi : CallR _ _ (rIsi K)) (by rfl) T.n_isinstance boot_isinstance (pa_cons (pv 0) (pa_cons (pe_bltn (v := .ty "tuple") (by rfl) T.n_tuple boot_tuple rfl) pa_nil))))) (pw_or1 (pt_cmpR op_ne (pe_callB (Go.c_len : CallR _ _ (Go.RLen K)) (by rfl) T.n_len boot_len (pa_cons (pv 0) pa_nil)) (pv 1) (nomark _))))) (pss_one (ps_ret pe_bl)) pss_nil)
      (pss_one (ps_ret (pe_callB (cr_all rfl) (by rfl) T.n_all boot_all (pa_cons (pe_lc (own := [("item", 2)]) (g := gName 2) (tt := tYes) rfl sc_is_strings.nd (pi_tup (pv 0)) (blkOk_by (N := N_is_strings) (sc := defScope s_is_strings) (by decide +kernel)) (fun _ _ _ _ _ => pg_name (i := 2) sc_is_strings.nd rfl (Or.inl rfl)) (fun _ _ _ _ _ => pts_nil) (fun _ _ _ _ _ => (pe_callB (call_isi : CallR _ _ (rIsi K)) (by rfl) T.n_isinstance boot_isinstance (pa_cons (pv 2) (pa_cons (pe_bltn (v := .ty "str") (by rfl) T.n_str boot_str rfl) pa_nil))))) pa_nil))))), ?_⟩
    rw [show L2.start N_is_strings [v, V.int n] = [some (v), some (V.int n), none] from rfl]
    try dsimp only [cxOf, Cx.nox]
    cases h with
    | @tup a xs ds h1 n1 l1 r1 =>
      tm_at "go"
      · refine Go.lc_w (walk_tup (K := K) (xs := xs)) (fun D i H' => Same H H' ∧ H D = none ∧ i ≤ 100000 ∧ H' D = some (.lst (((ds.take i).map isStrD).map V.bl))) (by tm_at "wipe") ?_ ?_ ?_ ?_
        · intro D H2 n0 s2 e2
          exact ⟨by tm_at "same", by tm_at "non", by omega, e2⟩
        · intro D i H2 hi ⟨s2, _, _, e2⟩
          tm_at "hpT"
        · rintro D i v H2 H3 hi ⟨s2, nD, li, e2⟩ ⟨rfl, hv⟩
          obtain ⟨d, hd, dv⟩ := r1.get hv
          have dv2 : Dt K H3 b v d := by tm_at "dt"
          have tk := take_snoc isStrD hd
          have fin : ∀ (H4 : Hp), Go.But D H3 H4 → H4 D = some (.lst (((ds.take i).map isStrD).map V.bl ++ [V.bl (isStrD d)])) → Same H H4 ∧ H D = none ∧ i + 1 ≤ 100000 ∧ H4 D = some (.lst (((ds.take (i + 1)).map isStrD).map V.bl)) := fun H4 s4 e4 => by
            refine ⟨by tm_at "same", nD, by omega, ?_⟩
            rw [e4, tk, List.map_append]
            rfl
          have hle : (((ds.take i).map isStrD).map V.bl).length ≤ 100000 := by
            rw [List.length_map, List.length_map, List.length_take]
            omega
          cases dv2 <;> (tm_at "go"; (refine Go.lcEnd e2 (Go.lt_line hle) ?_); exact fin)
        · rintro D H2 ⟨s2, nD, li, e2⟩
          tm_at "go"
          rename_i hn
          refine Go.bE ?_ (k _ s2)
          have hl := r1.len
          rw [hl, List.take_length, List.all_map]
          show _ = (decide ((ds.length : Int) = n) && ds.all isStrD)
          rw [decide_eq_true (by omega : (ds.length : Int) = n)]
          rfl
      · rename_i hn
        have hl := r1.len
        refine Go.bE ?_ (k _ (Same.refl _))
        show _ = (decide ((ds.length : Int) = n) && ds.all isStrD)
        rw [decide_eq_false (by omega : ¬ (ds.length : Int) = n)]
        rfl
    | _ =>
      tm_at "go"
      exact k _ (Same.refl _)
local macro_rules | `(tactic| tm_at "sp") => `(tactic| ((with_reducible refine' i_is_strings ?h ?_); (case h => tm_at "dt"); intro _ _))
theorem DtA.three {K : PySem.W.Frag} {H : Hp} {b : Addr} {xs : List V} {ds : List PyData} (r : DtA K H b xs ds) (h : xs.length = 3) : ∃ x y z dx dy dz, xs = [x, y, z] ∧ ds = [dx, dy, dz] ∧ Dt K H b x dx ∧ Dt K H b y dy ∧ Dt K H b z dz := by
  cases r with
  | nil => cases h
  | cons hx r =>
    cases r with
    | nil => cases h
    | cons hy r =>
      cases r with
      | nil => cases h
      | cons hz r =>
        cases r with
        | nil => exact ⟨_, _, _, _, _, _, rfl, rfl, hx, hy, hz⟩
        | cons _ _ => cases h
def sp_is_address (K : PySem.W.Frag) : Sp := fun vs H Q _ => ∃ (v : V) (b : Addr) (d : PyData), vs = [v] ∧ Dt K H b v d ∧ ∀ H' : Hp, Same H H' → Q (.bl (adrD d)) H'
theorem i_is_address {H : Hp} {Q : VK} {E : XK} {v : V} {b : Addr} {d : PyData} (h : Dt K H b v d) (q : ∀ H' : Hp, Same H H' → Q (.bl (adrD d)) H') : sp_is_address K [v] H Q E := ⟨v, b, d, rfl, h, q⟩
theorem ok_is_address (T : Txt K w mg Z) : FnOk P w K mg base CX0 3 Z.a_is_address Z.d_is_address ["value"] (sp_is_address K) := by
  have G_is_count := ok_is_count (P := P) (base := base) T
  have G_is_strings := ok_is_strings (P := P) (base := base) T
  have G_is_word := ok_is_word (P := P) (base := base) T
  refine T.F_is_address.ok sc_is_address (fun vs H Q E h => ?_) (fun cdv A outer s H vs Q E hr h => ?_)
  · obtain ⟨v, b, d, rfl, _⟩ := h
    rfl
  · obtain ⟨v, b, d, rfl, h, k⟩ := h
    refine ⟨_, (pss_cons (ps_if (PW.pt (pw_or (pt_not (pt_val (pe_callB (call_isi : CallR _ _ (rIsi K)) (by rfl) T.n_isinstance boot_isinstance (pa_cons (pv 0) (pa_cons (pe_bltn (v := .ty "tuple") (by rfl) T.n_tuple boot_tuple rfl) pa_nil))))) (pw_or1 (pt_cmpR op_ne (pe_callB (Go.c_len : CallR _ _ (Go.RLen K)) (by rfl) T.n_len boot_len (pa_cons (pv 0) pa_nil)) pe_int (nomark _))))) (pss_one (ps_ret pe_bl)) pss_nil)
      (pss_cons (ps_asg (pv 0) (pg_tup (by rfl) (pgs_cons (pg_name (i := 1) sc_is_address.nd rfl (Or.inl rfl)) (pgs_cons (pg_name (i := 2) sc_is_address.nd rfl (Or.inl rfl)) (pgs_cons (pg_name (i := 3) sc_is_address.nd rfl (Or.inl rfl)) pgs_nil)))))
      (pss_one (ps_ret (pe_and (pe_call G_is_count (hr.mono (by omega)) (by rfl) T.m_is_count T.F_is_count.kp T.b_is_count .nil pass0 (pa_cons (pv 1) pa_nil)) (pe_and (pe_call G_is_strings (hr.mono (by omega)) (by rfl) T.m_is_strings T.F_is_strings.kp T.b_is_strings .nil pass0 (pa_cons (pv 2) (pa_cons pe_int pa_nil))) (pe_one (pe_call G_is_word (hr.mono (by omega)) (by rfl) T.m_is_word T.F_is_word.kp T.b_is_word .nil pass0 (pa_cons (pv 3) pa_nil))))))))), ?_⟩
    rw [show L2.start N_is_address [v] = [some (v), none, none, none] from rfl]
    try dsimp only [cxOf, Cx.nox]
    cases h with
    | @tup a xs ds h1 n1 l1 r1 =>
      have hl := r1.len
      by_cases h3 : xs.length = 3
      · obtain ⟨x, y, z, dx, dy, dz, rfl, rfl, hx, hy, hz⟩ := r1.three h3
        tm_at "go"
        all_goals (refine Go.bE ?_ (k _ (by tm_at "same")); simp [adrD, *])
      · have e : adrD (.tuple ds) = false := by
          match ds, hl with
          | [], _ => rfl
          | [_], _ => rfl
          | [_, _], _ => rfl
          | [_, _, _], hl => exact absurd hl h3
          | _ :: _ :: _ :: _ :: _, _ => rfl
        tm_at "go"
        rw [← e]
        exact k _ (Same.refl _)
    | _ =>
      tm_at "go"
      exact k _ (Same.refl _)
local macro_rules | `(tactic| tm_at "sp") => `(tactic| ((with_reducible refine' i_is_address ?h ?_); (case h => tm_at "dt"); intro _ _))
/-! words and address values -/
inductive Val : PyData → Prop
  | w {n : Int} (h0 : 0 ≤ n) (h1 : n ≤ 65535) : Val (.int n)
  | ad {i x : Int} {a b c : Str} (hi : 0 ≤ i) (h0 : 0 ≤ x) (h1 : x ≤ 65535) : Val (.tuple [.int i, .tuple [.str a, .str b, .str c], .int x])
def sumD : PyData → PyData → PyData
  | .int a, .int b => .int ((a + b) % 65536)
  | .tuple [i, o, .int x], .int b => .tuple [i, o, .int ((x + b) % 65536)]
  | .int b, .tuple [i, o, .int x] => .tuple [i, o, .int ((x + b) % 65536)]
  | _, _ => .none
def lesD : PyData → PyData → PyData
  | .int a, .int b => .int ((a - b) % 65536)
  | .tuple [i, o, .int x], .int b => .tuple [i, o, .int ((x + -b) % 65536)]
  | .tuple [i, o, .int x], .tuple [j, p, .int y] => if PyData.eqv (.tuple [i, o]) (.tuple [j, p]) = true then .int ((x - y) % 65536) else .none
  | _, _ => .none
theorem Dt.tri {K : PySem.W.Frag} {H : Hp} {b : Addr} {v : V} {i o : PyData} {x : Int} (h : Dt K H b v (.tuple [i, o, .int x])) : ∃ a vi vo, v = .ref a ∧ a ≠ b ∧ SqT K H a [vi, vo, .int x] ∧ Dt K H b vi i ∧ Dt K H b vo o := by
  cases h with
  | tup h n l r =>
    cases r with
    | cons h1 r =>
      cases r with
      | cons h2 r =>
        cases r with
        | cons h3 r =>
          cases r
          cases h3
          exact ⟨_, _, _, rfl, n, h, h1, h2⟩
theorem Dt.word {K : PySem.W.Frag} {H : Hp} {b : Addr} {v : V} {n : Int} (h : Dt K H b v (.int n)) : v = .int n := by
  cases h
  rfl
theorem Dt.tri_mk {K : PySem.W.Frag} {H : Hp} {b p : Addr} {vi vo : V} {i o : PyData} {x : Int} (h : H p = some (.tup [vi, vo, .int x])) (n : p ≠ b) (h1 : Dt K H b vi i) (h2 : Dt K H b vo o) : Dt K H b (.ref p) (.tuple [i, o, .int x]) :=
  .tup (SqT.of h) n (Nat.le_of_ble_eq_true rfl) (.cons h1 (.cons h2 (.cons (.int _) .nil)))
def sp_moved (K : PySem.W.Frag) : Sp := fun vs H Q _ => ∃ (v : V) (j x : Int) (b : Addr) (i o : PyData), vs = [v, .int j] ∧ (∃ u, H b = some u) ∧ Dt K H b v (.tuple [i, o, .int x]) ∧ ∀ (H' : Hp) (u : V), Same H H' → Dt K H' b u (.tuple [i, o, .int ((x + j) % 65536)]) → Q u H'
theorem i_moved {H : Hp} {Q : VK} {E : XK} {v : V} {j x : Int} {b : Addr} {i o : PyData} (hb : ∃ u, H b = some u) (h : Dt K H b v (.tuple [i, o, .int x])) (q : ∀ (H' : Hp) (u : V), Same H H' → Dt K H' b u (.tuple [i, o, .int ((x + j) % 65536)]) → Q u H') : sp_moved K [v, .int j] H Q E := ⟨v, j, x, b, i, o, rfl, hb, h, q⟩
theorem ok_moved (T : Txt K w mg Z) : FnOk P w K mg base CX0 2 Z.a_moved Z.d_moved ["value", "words"] (sp_moved K) := by
  have G_wrapped := ok_wrapped (P := P) (base := base) T
  refine T.F_moved.ok sc_moved (fun vs H Q E h => ?_) (fun cdv A outer s H vs Q E hr h => ?_)
  · obtain ⟨v, j, x, b, i, o, rfl, _⟩ := h
    rfl
  · obtain ⟨v, j, x, b, i, o, rfl, ⟨u, hb⟩, h, k⟩ := h
    obtain ⟨a, vi, vo, rfl, na, ha, h1, h2⟩ := h.tri
    refine ⟨_, (pss_one (ps_ret (pe_tup (StX.pa_star (pe_slice (sl_tup : SlR _ (rSlT K)) (pv 0) po_none (po_some pe_int)) (pa_cons (pe_call G_wrapped (hr.mono (by omega)) (by rfl) T.m_wrapped T.F_wrapped.kp T.b_wrapped .nil pass0 (pa_cons (pe_op op_add (pe_ix (ix_tup : IxR _ (rIxT K)) (pv 0) pe_int (fun _ _ => rfl)) (pv 1)) pa_nil)) pa_nil))))), ?_⟩
    rw [show L2.start N_moved [V.ref a, V.int j] = [some (V.ref a), some (V.int j)] from rfl]
    try dsimp only [cxOf, Cx.nox]
    tm_at "go"
    rename_i p1 H1 n1 s1 e1 p2 H2 n2 s2 e2
    have nb : p2 ≠ b := (ne_of_none (s1 _ _ hb) n2).symm
    exact k _ _ (by tm_at "same") (Dt.tri_mk e2 nb (by tm_at "dt") (by tm_at "dt"))
theorem val_w {n : Int} (h0 : 0 ≤ n) (h1 : n ≤ 65535) : numD 0 65535 (.int n) = true := by simp [numD, h0, h1]
theorem val_a {i x : Int} {a b c : Str} (hi : 0 ≤ i) (h0 : 0 ≤ x) (h1 : x ≤ 65535) : adrD (.tuple [.int i, .tuple [.str a, .str b, .str c], .int x]) = true := by
  simp [adrD, cntD, strsD, isStrD, numD, hi, h0, h1]
def sp_two (K : PySem.W.Frag) (f : PyData → PyData → PyData) : Sp := fun vs H Q _ => ∃ (v w : V) (b : Addr) (d e : PyData), vs = [v, w] ∧ (∃ u, H b = some u) ∧ Dt K H b v d ∧ Dt K H b w e ∧ Val d ∧ Val e ∧ ∀ (H' : Hp) (u : V), Same H H' → Dt K H' b u (f d e) → Q u H'
theorem i_two {f : PyData → PyData → PyData} {H : Hp} {Q : VK} {E : XK} {v w : V} {b : Addr} {d e : PyData} (hb : ∃ u, H b = some u) (h1 : Dt K H b v d) (h2 : Dt K H b w e) (v1 : Val d) (v2 : Val e) (q : ∀ (H' : Hp) (u : V), Same H H' → Dt K H' b u (f d e) → Q u H') : sp_two K f [v, w] H Q E := ⟨v, w, b, d, e, rfl, hb, h1, h2, v1, v2, q⟩
local macro_rules | `(tactic| tm_at "sp") => `(tactic| ((with_reducible refine' i_moved ?b ?h ?_); (case b => first | exact ⟨_, by tm_at "hpO"⟩ | exact Bag.at (by tm_at "bag")); (case h => tm_at "dt"); intro _ _ _ _))
theorem ok_sum_of (T : Txt K w mg Z) : FnOk P w K mg base CX0 4 Z.a_sum_of Z.d_sum_of ["one", "other"] (sp_two K sumD) := by
  have G_is_word := ok_is_word (P := P) (base := base) T
  have G_is_address := ok_is_address (P := P) (base := base) T
  have G_wrapped := ok_wrapped (P := P) (base := base) T
  have G_moved := ok_moved (P := P) (base := base) T
  refine T.F_sum_of.ok sc_sum_of (fun vs H Q E h => ?_) (fun cdv A outer s H vs Q E hr h => ?_)
  · obtain ⟨v, w, b, d, e, rfl, _⟩ := h
    rfl
  · obtain ⟨v, w, b, d, e, rfl, ⟨u, hb⟩, h1, h2, v1, v2, k⟩ := h
    cases v1 with
    | w a0 a1 =>
      have q1 := val_w a0 a1
      obtain rfl := h1.word
      cases v2 with
      | w b0 b1 =>
        have q3 := val_w b0 b1
        obtain rfl := h2.word
        refine ⟨_, (pss_cons (ps_if (PW.pt (pw_and (pt_val (pe_call G_is_word (hr.mono (by omega)) (by rfl) T.m_is_word T.F_is_word.kp T.b_is_word .nil pass0 (pa_cons (pv 0) pa_nil))) (pw_and1 (pt_val (pe_call G_is_word (hr.mono (by omega)) (by rfl) T.m_is_word T.F_is_word.kp T.b_is_word .nil pass0 (pa_cons (pv 1) pa_nil)))))) (pss_one (ps_ret (pe_call G_wrapped (hr.mono (by omega)) (by rfl) T.m_wrapped T.F_wrapped.kp T.b_wrapped .nil pass0 (pa_cons (pe_op op_add (pv 0) (pv 1)) pa_nil)))) pss_nil)
      (pss_cons (ps_if (PW.pt (pw_and (pt_val (pe_call G_is_address (hr.mono (by omega)) (by rfl) T.m_is_address T.F_is_address.kp T.b_is_address .nil pass0 (pa_cons (pv 0) pa_nil))) (pw_and1 (pt_val (pe_call G_is_word (hr.mono (by omega)) (by rfl) T.m_is_word T.F_is_word.kp T.b_is_word .nil pass0 (pa_cons (pv 1) pa_nil)))))) (pss_one (ps_ret (pe_call G_moved (hr.mono (by omega)) (by rfl) T.m_moved T.F_moved.kp T.b_moved .nil pass0 (pa_cons (pv 0) (pa_cons (pv 1) pa_nil))))) pss_nil)
      (pss_cons (ps_if (PW.pt (pw_and (pt_val (pe_call G_is_word (hr.mono (by omega)) (by rfl) T.m_is_word T.F_is_word.kp T.b_is_word .nil pass0 (pa_cons (pv 0) pa_nil))) (pw_and1 (pt_val (pe_call G_is_address (hr.mono (by omega)) (by rfl) T.m_is_address T.F_is_address.kp T.b_is_address .nil pass0 (pa_cons (pv 1) pa_nil)))))) (pss_one (ps_ret (pe_call G_moved (hr.mono (by omega)) (by rfl) T.m_moved T.F_moved.kp T.b_moved .nil pass0 (pa_cons (pv 1) (pa_cons (pv 0) pa_nil))))) pss_nil)
      (pss_one (ps_ret pe_non))))), ?_⟩
        rw [show L2.start N_sum_of [V.int _, V.int _] = [some (V.int _), some (V.int _)] from rfl]
        try dsimp only [cxOf, Cx.nox]
        tm_at "go"
        exact k _ _ (by tm_at "same") (.int _)
      | @ad i x s1 s2 s3 bi b0 b1 =>
        have q3 := val_a (a := s1) (b := s2) (c := s3) bi b0 b1
        refine ⟨_, (pss_cons (ps_if (PW.pt (pw_and (pt_val (pe_call G_is_word (hr.mono (by omega)) (by rfl) T.m_is_word T.F_is_word.kp T.b_is_word .nil pass0 (pa_cons (pv 0) pa_nil))) (pw_and1 (pt_val (pe_call G_is_word (hr.mono (by omega)) (by rfl) T.m_is_word T.F_is_word.kp T.b_is_word .nil pass0 (pa_cons (pv 1) pa_nil)))))) (pss_one (ps_ret (pe_call G_wrapped (hr.mono (by omega)) (by rfl) T.m_wrapped T.F_wrapped.kp T.b_wrapped .nil pass0 (pa_cons (pe_op op_add (pv 0) (pv 1)) pa_nil)))) pss_nil)
      (pss_cons (ps_if (PW.pt (pw_and (pt_val (pe_call G_is_address (hr.mono (by omega)) (by rfl) T.m_is_address T.F_is_address.kp T.b_is_address .nil pass0 (pa_cons (pv 0) pa_nil))) (pw_and1 (pt_val (pe_call G_is_word (hr.mono (by omega)) (by rfl) T.m_is_word T.F_is_word.kp T.b_is_word .nil pass0 (pa_cons (pv 1) pa_nil)))))) (pss_one (ps_ret (pe_call G_moved (hr.mono (by omega)) (by rfl) T.m_moved T.F_moved.kp T.b_moved .nil pass0 (pa_cons (pv 0) (pa_cons (pv 1) pa_nil))))) pss_nil)
      (pss_cons (ps_if (PW.pt (pw_and (pt_val (pe_call G_is_word (hr.mono (by omega)) (by rfl) T.m_is_word T.F_is_word.kp T.b_is_word .nil pass0 (pa_cons (pv 0) pa_nil))) (pw_and1 (pt_val (pe_call G_is_address (hr.mono (by omega)) (by rfl) T.m_is_address T.F_is_address.kp T.b_is_address .nil pass0 (pa_cons (pv 1) pa_nil)))))) (pss_one (ps_ret (pe_call G_moved (hr.mono (by omega)) (by rfl) T.m_moved T.F_moved.kp T.b_moved .nil pass0 (pa_cons (pv 1) (pa_cons (pv 0) pa_nil))))) pss_nil)
      (pss_one (ps_ret pe_non))))), ?_⟩
        rw [show L2.start N_sum_of [V.int _, w] = [some (V.int _), some (w)] from rfl]
        try dsimp only [cxOf, Cx.nox]
        tm_at "go"
        exact k _ _ (by tm_at "same") (by assumption)
    | @ad i x s1 s2 s3 ai a0 a1 =>
      have q1 := val_a (a := s1) (b := s2) (c := s3) ai a0 a1
      cases v2 with
      | w b0 b1 =>
        have q3 := val_w b0 b1
        obtain rfl := h2.word
        refine ⟨_, (pss_cons (ps_if (PW.pt (pw_and (pt_val (pe_call G_is_word (hr.mono (by omega)) (by rfl) T.m_is_word T.F_is_word.kp T.b_is_word .nil pass0 (pa_cons (pv 0) pa_nil))) (pw_and1 (pt_val (pe_call G_is_word (hr.mono (by omega)) (by rfl) T.m_is_word T.F_is_word.kp T.b_is_word .nil pass0 (pa_cons (pv 1) pa_nil)))))) (pss_one (ps_ret (pe_call G_wrapped (hr.mono (by omega)) (by rfl) T.m_wrapped T.F_wrapped.kp T.b_wrapped .nil pass0 (pa_cons (pe_op op_add (pv 0) (pv 1)) pa_nil)))) pss_nil)
      (pss_cons (ps_if (PW.pt (pw_and (pt_val (pe_call G_is_address (hr.mono (by omega)) (by rfl) T.m_is_address T.F_is_address.kp T.b_is_address .nil pass0 (pa_cons (pv 0) pa_nil))) (pw_and1 (pt_val (pe_call G_is_word (hr.mono (by omega)) (by rfl) T.m_is_word T.F_is_word.kp T.b_is_word .nil pass0 (pa_cons (pv 1) pa_nil)))))) (pss_one (ps_ret (pe_call G_moved (hr.mono (by omega)) (by rfl) T.m_moved T.F_moved.kp T.b_moved .nil pass0 (pa_cons (pv 0) (pa_cons (pv 1) pa_nil))))) pss_nil)
      (pss_cons (ps_if (PW.pt (pw_and (pt_val (pe_call G_is_word (hr.mono (by omega)) (by rfl) T.m_is_word T.F_is_word.kp T.b_is_word .nil pass0 (pa_cons (pv 0) pa_nil))) (pw_and1 (pt_val (pe_call G_is_address (hr.mono (by omega)) (by rfl) T.m_is_address T.F_is_address.kp T.b_is_address .nil pass0 (pa_cons (pv 1) pa_nil)))))) (pss_one (ps_ret (pe_call G_moved (hr.mono (by omega)) (by rfl) T.m_moved T.F_moved.kp T.b_moved .nil pass0 (pa_cons (pv 1) (pa_cons (pv 0) pa_nil))))) pss_nil)
      (pss_one (ps_ret pe_non))))), ?_⟩
        rw [show L2.start N_sum_of [v, V.int _] = [some (v), some (V.int _)] from rfl]
        try dsimp only [cxOf, Cx.nox]
        tm_at "go"
        exact k _ _ (by tm_at "same") (by assumption)
      | @ad j y t1 t2 t3 bi b0 b1 =>
        have q3 := val_a (a := t1) (b := t2) (c := t3) bi b0 b1
        refine ⟨_, (pss_cons (ps_if (PW.pt (pw_and (pt_val (pe_call G_is_word (hr.mono (by omega)) (by rfl) T.m_is_word T.F_is_word.kp T.b_is_word .nil pass0 (pa_cons (pv 0) pa_nil))) (pw_and1 (pt_val (pe_call G_is_word (hr.mono (by omega)) (by rfl) T.m_is_word T.F_is_word.kp T.b_is_word .nil pass0 (pa_cons (pv 1) pa_nil)))))) (pss_one (ps_ret (pe_call G_wrapped (hr.mono (by omega)) (by rfl) T.m_wrapped T.F_wrapped.kp T.b_wrapped .nil pass0 (pa_cons (pe_op op_add (pv 0) (pv 1)) pa_nil)))) pss_nil)
      (pss_cons (ps_if (PW.pt (pw_and (pt_val (pe_call G_is_address (hr.mono (by omega)) (by rfl) T.m_is_address T.F_is_address.kp T.b_is_address .nil pass0 (pa_cons (pv 0) pa_nil))) (pw_and1 (pt_val (pe_call G_is_word (hr.mono (by omega)) (by rfl) T.m_is_word T.F_is_word.kp T.b_is_word .nil pass0 (pa_cons (pv 1) pa_nil)))))) (pss_one (ps_ret (pe_call G_moved (hr.mono (by omega)) (by rfl) T.m_moved T.F_moved.kp T.b_moved .nil pass0 (pa_cons (pv 0) (pa_cons (pv 1) pa_nil))))) pss_nil)
      (pss_cons (ps_if (PW.pt (pw_and (pt_val (pe_call G_is_word (hr.mono (by omega)) (by rfl) T.m_is_word T.F_is_word.kp T.b_is_word .nil pass0 (pa_cons (pv 0) pa_nil))) (pw_and1 (pt_val (pe_call G_is_address (hr.mono (by omega)) (by rfl) T.m_is_address T.F_is_address.kp T.b_is_address .nil pass0 (pa_cons (pv 1) pa_nil)))))) (pss_one (ps_ret (pe_call G_moved (hr.mono (by omega)) (by rfl) T.m_moved T.F_moved.kp T.b_moved .nil pass0 (pa_cons (pv 1) (pa_cons (pv 0) pa_nil))))) pss_nil)
      (pss_one (ps_ret pe_non))))), ?_⟩
        rw [show L2.start N_sum_of [v, w] = [some (v), some (w)] from rfl]
        try dsimp only [cxOf, Cx.nox]
        tm_at "go"
        exact k _ _ (by tm_at "same") .non
theorem Dt.head2 {K : PySem.W.Frag} {H : Hp} {b p : Addr} {vi vo : V} {i o : PyData} (h : H p = some (.tup [vi, vo])) (n : p ≠ b) (h1 : Dt K H b vi i) (h2 : Dt K H b vo o) : Dt K H b (.ref p) (.tuple [i, o]) :=
  .tup (SqT.of h) n (Nat.le_of_ble_eq_true rfl) (.cons h1 (.cons h2 .nil))
theorem ok_difference (T : Txt K w mg Z) : FnOk P w K mg base CX0 4 Z.a_difference Z.d_difference ["one", "other"] (sp_two K lesD) := by
  have G_is_word := ok_is_word (P := P) (base := base) T
  have G_is_address := ok_is_address (P := P) (base := base) T
  have G_wrapped := ok_wrapped (P := P) (base := base) T
  have G_moved := ok_moved (P := P) (base := base) T
  refine T.F_difference.ok sc_difference (fun vs H Q E h => ?_) (fun cdv A outer s H vs Q E hr h => ?_)
  · obtain ⟨v, w, b, d, e, rfl, _⟩ := h
    rfl
  · obtain ⟨v, w, b, d, e, rfl, ⟨u, hb⟩, h1, h2, v1, v2, k⟩ := h
    cases v1 with
    | w a0 a1 =>
      have q1 := val_w a0 a1
      obtain rfl := h1.word
      cases v2 with
      | w b0 b1 =>
        have q3 := val_w b0 b1
        obtain rfl := h2.word
        refine ⟨_, (pss_cons (ps_if (PW.pt (pw_and (pt_val (pe_call G_is_word (hr.mono (by omega)) (by rfl) T.m_is_word T.F_is_word.kp T.b_is_word .nil pass0 (pa_cons (pv 0) pa_nil))) (pw_and1 (pt_val (pe_call G_is_word (hr.mono (by omega)) (by rfl) T.m_is_word T.F_is_word.kp T.b_is_word .nil pass0 (pa_cons (pv 1) pa_nil)))))) (pss_one (ps_ret (pe_call G_wrapped (hr.mono (by omega)) (by rfl) T.m_wrapped T.F_wrapped.kp T.b_wrapped .nil pass0 (pa_cons (pe_op op_sub (pv 0) (pv 1)) pa_nil)))) pss_nil)
      (pss_cons (ps_if (PW.pt (pw_and (pt_val (pe_call G_is_address (hr.mono (by omega)) (by rfl) T.m_is_address T.F_is_address.kp T.b_is_address .nil pass0 (pa_cons (pv 0) pa_nil))) (pw_and1 (pt_val (pe_call G_is_word (hr.mono (by omega)) (by rfl) T.m_is_word T.F_is_word.kp T.b_is_word .nil pass0 (pa_cons (pv 1) pa_nil)))))) (pss_one (ps_ret (pe_call G_moved (hr.mono (by omega)) (by rfl) T.m_moved T.F_moved.kp T.b_moved .nil pass0 (pa_cons (pv 0) (pa_cons (pe_un un_neg (pv 1)) pa_nil))))) pss_nil)
      (pss_cons (ps_if (PW.pt (pw_and (pt_val (pe_call G_is_address (hr.mono (by omega)) (by rfl) T.m_is_address T.F_is_address.kp T.b_is_address .nil pass0 (pa_cons (pv 0) pa_nil))) (pw_and (pt_val (pe_call G_is_address (hr.mono (by omega)) (by rfl) T.m_is_address T.F_is_address.kp T.b_is_address .nil pass0 (pa_cons (pv 1) pa_nil))) (pw_and1 (pt_cmpR (op_eqD hr.units) (pe_slice (sl_tup : SlR _ (rSlT K)) (pv 0) po_none (po_some pe_int)) (pe_slice (sl_tup : SlR _ (rSlT K)) (pv 1) po_none (po_some pe_int)) (nomark _)))))) (pss_one (ps_ret (pe_call G_wrapped (hr.mono (by omega)) (by rfl) T.m_wrapped T.F_wrapped.kp T.b_wrapped .nil pass0 (pa_cons (pe_op op_sub (pe_ix (ix_tup : IxR _ (rIxT K)) (pv 0) pe_int (fun _ _ => rfl)) (pe_ix (ix_tup : IxR _ (rIxT K)) (pv 1) pe_int (fun _ _ => rfl))) pa_nil)))) pss_nil)
      (pss_one (ps_ret pe_non))))), ?_⟩
        rw [show L2.start N_difference [V.int _, V.int _] = [some (V.int _), some (V.int _)] from rfl]
        try dsimp only [cxOf, Cx.nox]
        tm_at "go"
        exact k _ _ (by tm_at "same") (.int _)
      | @ad i x s1 s2 s3 bi b0 b1 =>
        have q3 := val_a (a := s1) (b := s2) (c := s3) bi b0 b1
        refine ⟨_, (pss_cons (ps_if (PW.pt (pw_and (pt_val (pe_call G_is_word (hr.mono (by omega)) (by rfl) T.m_is_word T.F_is_word.kp T.b_is_word .nil pass0 (pa_cons (pv 0) pa_nil))) (pw_and1 (pt_val (pe_call G_is_word (hr.mono (by omega)) (by rfl) T.m_is_word T.F_is_word.kp T.b_is_word .nil pass0 (pa_cons (pv 1) pa_nil)))))) (pss_one (ps_ret (pe_call G_wrapped (hr.mono (by omega)) (by rfl) T.m_wrapped T.F_wrapped.kp T.b_wrapped .nil pass0 (pa_cons (pe_op op_sub (pv 0) (pv 1)) pa_nil)))) pss_nil)
      (pss_cons (ps_if (PW.pt (pw_and (pt_val (pe_call G_is_address (hr.mono (by omega)) (by rfl) T.m_is_address T.F_is_address.kp T.b_is_address .nil pass0 (pa_cons (pv 0) pa_nil))) (pw_and1 (pt_val (pe_call G_is_word (hr.mono (by omega)) (by rfl) T.m_is_word T.F_is_word.kp T.b_is_word .nil pass0 (pa_cons (pv 1) pa_nil)))))) (pss_one (ps_ret (pe_call G_moved (hr.mono (by omega)) (by rfl) T.m_moved T.F_moved.kp T.b_moved .nil pass0 (pa_cons (pv 0) (pa_cons (pe_un un_neg (pv 1)) pa_nil))))) pss_nil)
      (pss_cons (ps_if (PW.pt (pw_and (pt_val (pe_call G_is_address (hr.mono (by omega)) (by rfl) T.m_is_address T.F_is_address.kp T.b_is_address .nil pass0 (pa_cons (pv 0) pa_nil))) (pw_and (pt_val (pe_call G_is_address (hr.mono (by omega)) (by rfl) T.m_is_address T.F_is_address.kp T.b_is_address .nil pass0 (pa_cons (pv 1) pa_nil))) (pw_and1 (pt_cmpR (op_eqD hr.units) (pe_slice (sl_tup : SlR _ (rSlT K)) (pv 0) po_none (po_some pe_int)) (pe_slice (sl_tup : SlR _ (rSlT K)) (pv 1) po_none (po_some pe_int)) (nomark _)))))) (pss_one (ps_ret (pe_call G_wrapped (hr.mono (by omega)) (by rfl) T.m_wrapped T.F_wrapped.kp T.b_wrapped .nil pass0 (pa_cons (pe_op op_sub (pe_ix (ix_tup : IxR _ (rIxT K)) (pv 0) pe_int (fun _ _ => rfl)) (pe_ix (ix_tup : IxR _ (rIxT K)) (pv 1) pe_int (fun _ _ => rfl))) pa_nil)))) pss_nil)
      (pss_one (ps_ret pe_non))))), ?_⟩
        rw [show L2.start N_difference [V.int _, w] = [some (V.int _), some (w)] from rfl]
        try dsimp only [cxOf, Cx.nox]
        tm_at "go"
        exact k _ _ (by tm_at "same") .non
    | @ad i x s1 s2 s3 ai a0 a1 =>
      have q1 := val_a (a := s1) (b := s2) (c := s3) ai a0 a1
      cases v2 with
      | w b0 b1 =>
        have q3 := val_w b0 b1
        obtain rfl := h2.word
        refine ⟨_, (pss_cons (ps_if (PW.pt (pw_and (pt_val (pe_call G_is_word (hr.mono (by omega)) (by rfl) T.m_is_word T.F_is_word.kp T.b_is_word .nil pass0 (pa_cons (pv 0) pa_nil))) (pw_and1 (pt_val (pe_call G_is_word (hr.mono (by omega)) (by rfl) T.m_is_word T.F_is_word.kp T.b_is_word .nil pass0 (pa_cons (pv 1) pa_nil)))))) (pss_one (ps_ret (pe_call G_wrapped (hr.mono (by omega)) (by rfl) T.m_wrapped T.F_wrapped.kp T.b_wrapped .nil pass0 (pa_cons (pe_op op_sub (pv 0) (pv 1)) pa_nil)))) pss_nil)
      (pss_cons (ps_if (PW.pt (pw_and (pt_val (pe_call G_is_address (hr.mono (by omega)) (by rfl) T.m_is_address T.F_is_address.kp T.b_is_address .nil pass0 (pa_cons (pv 0) pa_nil))) (pw_and1 (pt_val (pe_call G_is_word (hr.mono (by omega)) (by rfl) T.m_is_word T.F_is_word.kp T.b_is_word .nil pass0 (pa_cons (pv 1) pa_nil)))))) (pss_one (ps_ret (pe_call G_moved (hr.mono (by omega)) (by rfl) T.m_moved T.F_moved.kp T.b_moved .nil pass0 (pa_cons (pv 0) (pa_cons (pe_un un_neg (pv 1)) pa_nil))))) pss_nil)
      (pss_cons (ps_if (PW.pt (pw_and (pt_val (pe_call G_is_address (hr.mono (by omega)) (by rfl) T.m_is_address T.F_is_address.kp T.b_is_address .nil pass0 (pa_cons (pv 0) pa_nil))) (pw_and (pt_val (pe_call G_is_address (hr.mono (by omega)) (by rfl) T.m_is_address T.F_is_address.kp T.b_is_address .nil pass0 (pa_cons (pv 1) pa_nil))) (pw_and1 (pt_cmpR (op_eqD hr.units) (pe_slice (sl_tup : SlR _ (rSlT K)) (pv 0) po_none (po_some pe_int)) (pe_slice (sl_tup : SlR _ (rSlT K)) (pv 1) po_none (po_some pe_int)) (nomark _)))))) (pss_one (ps_ret (pe_call G_wrapped (hr.mono (by omega)) (by rfl) T.m_wrapped T.F_wrapped.kp T.b_wrapped .nil pass0 (pa_cons (pe_op op_sub (pe_ix (ix_tup : IxR _ (rIxT K)) (pv 0) pe_int (fun _ _ => rfl)) (pe_ix (ix_tup : IxR _ (rIxT K)) (pv 1) pe_int (fun _ _ => rfl))) pa_nil)))) pss_nil)
      (pss_one (ps_ret pe_non))))), ?_⟩
        rw [show L2.start N_difference [v, V.int _] = [some (v), some (V.int _)] from rfl]
        try dsimp only [cxOf, Cx.nox]
        tm_at "go"
        exact k _ _ (by tm_at "same") (by assumption)
      | @ad j y t1 t2 t3 bi b0 b1 =>
        have q3 := val_a (a := t1) (b := t2) (c := t3) bi b0 b1
        obtain ⟨p1, vi, vo, rfl, n1, e1, hi, ho⟩ := h1.tri
        obtain ⟨p2, wi, wo, rfl, n2, e2, hj, hp⟩ := h2.tri
        refine ⟨_, (pss_cons (ps_if (PW.pt (pw_and (pt_val (pe_call G_is_word (hr.mono (by omega)) (by rfl) T.m_is_word T.F_is_word.kp T.b_is_word .nil pass0 (pa_cons (pv 0) pa_nil))) (pw_and1 (pt_val (pe_call G_is_word (hr.mono (by omega)) (by rfl) T.m_is_word T.F_is_word.kp T.b_is_word .nil pass0 (pa_cons (pv 1) pa_nil)))))) (pss_one (ps_ret (pe_call G_wrapped (hr.mono (by omega)) (by rfl) T.m_wrapped T.F_wrapped.kp T.b_wrapped .nil pass0 (pa_cons (pe_op op_sub (pv 0) (pv 1)) pa_nil)))) pss_nil)
      (pss_cons (ps_if (PW.pt (pw_and (pt_val (pe_call G_is_address (hr.mono (by omega)) (by rfl) T.m_is_address T.F_is_address.kp T.b_is_address .nil pass0 (pa_cons (pv 0) pa_nil))) (pw_and1 (pt_val (pe_call G_is_word (hr.mono (by omega)) (by rfl) T.m_is_word T.F_is_word.kp T.b_is_word .nil pass0 (pa_cons (pv 1) pa_nil)))))) (pss_one (ps_ret (pe_call G_moved (hr.mono (by omega)) (by rfl) T.m_moved T.F_moved.kp T.b_moved .nil pass0 (pa_cons (pv 0) (pa_cons (pe_un un_neg (pv 1)) pa_nil))))) pss_nil)
      (pss_cons (ps_if (PW.pt (pw_and (pt_val (pe_call G_is_address (hr.mono (by omega)) (by rfl) T.m_is_address T.F_is_address.kp T.b_is_address .nil pass0 (pa_cons (pv 0) pa_nil))) (pw_and (pt_val (pe_call G_is_address (hr.mono (by omega)) (by rfl) T.m_is_address T.F_is_address.kp T.b_is_address .nil pass0 (pa_cons (pv 1) pa_nil))) (pw_and1 (pt_cmpR (op_eqD hr.units) (pe_slice (sl_tup : SlR _ (rSlT K)) (pv 0) po_none (po_some pe_int)) (pe_slice (sl_tup : SlR _ (rSlT K)) (pv 1) po_none (po_some pe_int)) (nomark _)))))) (pss_one (ps_ret (pe_call G_wrapped (hr.mono (by omega)) (by rfl) T.m_wrapped T.F_wrapped.kp T.b_wrapped .nil pass0 (pa_cons (pe_op op_sub (pe_ix (ix_tup : IxR _ (rIxT K)) (pv 0) pe_int (fun _ _ => rfl)) (pe_ix (ix_tup : IxR _ (rIxT K)) (pv 1) pe_int (fun _ _ => rfl))) pa_nil)))) pss_nil)
      (pss_one (ps_ret pe_non))))), ?_⟩
        rw [show L2.start N_difference [V.ref p1, V.ref p2] = [some (V.ref p1), some (V.ref p2)] from rfl]
        try dsimp only [cxOf, Cx.nox]
        tm_at "go"
        rename_i x1 H3 m1 c1 f1 x2 H4 m2 c2 f2
        have nb1 : x1 ≠ b := (ne_of_none (by tm_at "hpO") m1).symm
        have nb2 : x2 ≠ b := (ne_of_none (by tm_at "hpO") m2).symm
        have d1 : Dt K H4 b (.ref x1) (.tuple [.int i, .tuple [.str s1, .str s2, .str s3]]) := Dt.head2 (by tm_at "hpO") nb1 (by tm_at "dt") (by tm_at "dt")
        have d2 : Dt K H4 b (.ref x2) (.tuple [.int j, .tuple [.str t1, .str t2, .str t3]]) := Dt.head2 (by tm_at "hpO") nb2 (by tm_at "dt") (by tm_at "dt")
        refine Go.eqD d1.dp d2.dp (shp d1.lay rfl) (shp d2.lay rfl) ?_
        tm_at "go"
        · rename_i he
          have e : lesD (.tuple [.int i, .tuple [.str s1, .str s2, .str s3], .int x]) (.tuple [.int j, .tuple [.str t1, .str t2, .str t3], .int y]) = .int ((x - y) % 65536) := if_pos he
          refine k _ _ (by tm_at "same") ?_
          rw [e]
          exact .int _
        · rename_i he
          have e : lesD (.tuple [.int i, .tuple [.str s1, .str s2, .str s3], .int x]) (.tuple [.int j, .tuple [.str t1, .str t2, .str t3], .int y]) = .none := if_neg (by rw [he]; decide)
          refine k _ _ (by tm_at "same") ?_
          rw [e]
          exact .non
def sp_in_place (K : PySem.W.Frag) : Sp := fun vs H Q _ => ∃ (v : V) (c x : Int) (b : Addr) (i o : PyData), vs = [v, .int c] ∧ Dt K H b v (.tuple [i, o, .int x]) ∧ adrD (.tuple [i, o, .int x]) = true ∧ ∀ H' : Hp, Same H H' → Q (.bl (decide (x < c))) H'
theorem i_in_place {H : Hp} {Q : VK} {E : XK} {v : V} {c x : Int} {b : Addr} {i o : PyData} (h : Dt K H b v (.tuple [i, o, .int x])) (a : adrD (.tuple [i, o, .int x]) = true) (q : ∀ H' : Hp, Same H H' → Q (.bl (decide (x < c))) H') : sp_in_place K [v, .int c] H Q E := ⟨v, c, x, b, i, o, rfl, h, a, q⟩
theorem ok_in_place (T : Txt K w mg Z) : FnOk P w K mg base CX0 4 Z.a_in_place Z.d_in_place ["value", "cells"] (sp_in_place K) := by
  have G_is_address := ok_is_address (P := P) (base := base) T
  refine T.F_in_place.ok sc_in_place (fun vs H Q E h => ?_) (fun cdv A outer s H vs Q E hr h => ?_)
  · obtain ⟨v, c, x, b, i, o, rfl, _⟩ := h
    rfl
  · obtain ⟨v, c, x, b, i, o, rfl, h, ha, k⟩ := h
    obtain ⟨p1, vi, vo, rfl, n1, e1, hi, ho⟩ := h.tri
    refine ⟨_, (pss_one (ps_ret (pe_and (pe_call G_is_address (hr.mono (by omega)) (by rfl) T.m_is_address T.F_is_address.kp T.b_is_address .nil pass0 (pa_cons (pv 0) pa_nil)) (pe_one (pe_cmpR op_lt (pe_ix (ix_tup : IxR _ (rIxT K)) (pv 0) pe_int (fun _ _ => rfl)) (pv 1) (nomark _)))))), ?_⟩
    rw [show L2.start N_in_place [V.ref p1, V.int c] = [some (V.ref p1), some (V.int c)] from rfl]
    try dsimp only [cxOf, Cx.nox]
    tm_at "go"
    exact k _ (by tm_at "same")
end
local macro_rules | `(tactic| tm_at "sp") => `(tactic| ((with_reducible refine' i_is_number ?h ?_); (case h => tm_at "dt"); intro _ _))
local macro_rules | `(tactic| tm_at "sp") => `(tactic| ((with_reducible refine' i_is_word ?h ?_); (case h => tm_at "dt"); intro _ _))
local macro_rules | `(tactic| tm_at "sp") => `(tactic| ((with_reducible refine' i_wrapped ?_)))
local macro_rules | `(tactic| tm_at "sp") => `(tactic| ((with_reducible refine' i_is_count ?h ?_); (case h => tm_at "dt"); intro _ _))
local macro_rules | `(tactic| tm_at "sp") => `(tactic| ((with_reducible refine' i_is_strings ?h ?_); (case h => tm_at "dt"); intro _ _))
local macro_rules | `(tactic| tm_at "sp") => `(tactic| ((with_reducible refine' i_is_address ?h ?_); (case h => tm_at "dt"); intro _ _))
local macro_rules | `(tactic| tm_at "sp") => `(tactic| ((with_reducible refine' i_moved ?b ?h ?_); (case b => first | exact ⟨_, by tm_at "hpO"⟩ | exact Bag.at (by tm_at "bag")); (case h => tm_at "dt"); intro _ _ _ _))

theorem mem0 {α : Type} {P : α → Prop} : ∀ y ∈ ([] : List α), P y := fun _ m => nomatch m
theorem memc {α : Type} {P : α → Prop} {x : α} {l : List α} (h : P x) (t : ∀ y ∈ l, P y) : ∀ y ∈ x :: l, P y := fun y m => by
  rcases List.mem_cons.mp m with e | m
  · rw [e]
    exact h
  · exact t y m
theorem Dt.lit {K : PySem.W.Frag} {H : Hp} {b : Addr} {z : Str} (h : (decide (z.cps.size ≤ 100000) && z.cps.toList.all fun c => decide (c < 1114112)) = true) : Dt K H b (.str z) (.str z) := by
  rw [Bool.and_eq_true] at h
  exact .str ⟨of_decide_eq_true h.1, fun c m => of_decide_eq_true (List.all_eq_true.mp h.2 c m)⟩
local macro_rules | `(tactic| tm_at "dt") => `(tactic| first | exact Dt.str (by assumption) | exact Dt.lit (by decide +kernel) | (refine' Dt.tup ?h ?n ?l ?r; (case h => tm_at "hpT"); (case n => tm_at "ne"); (case l => exact Nat.le_of_ble_eq_true rfl); (case r => tm_at "dtA")) | (refine' Dt.lst ?h ?n ?l ?r; (case h => tm_at "hpL"); (case n => tm_at "ne"); (case l => exact Nat.le_of_ble_eq_true rfl); (case r => tm_at "dtA")))
local macro_rules | `(tactic| tm_at "dtA") => `(tactic| first | exact DtA.nil | (refine' DtA.cons ?a ?b; (case a => tm_at "dt"); (case b => tm_at "dtA")))
local macro_rules | `(tactic| tm_at "all") => `(tactic| repeat' (first | exact mem0 | refine memc ?_ ?_))
section
variable {P : Program} {w : World} {K : PySem.W.Frag} {mg : Str → Option Value} {base : Heap} {Z : Fs}
local macro_rules | `(tactic| tm_at "sp") => `(tactic| ((with_reducible refine' i_draw ?b ?x ?y ?_); (case b => tm_at "bag"); (case x => omega); (case y => omega); intro _ _ _ _ _ _))
def sp_law_of (K : PySem.W.Frag) : Sp := fun vs H Q _ => ∃ (b l a : Addr) (xs : List V), vs = [.ref b, .ref a] ∧ Bag H b l ∧ SqL K H a xs ∧ a ≠ b ∧ 0 < xs.length ∧ xs.length ≤ 100000 ∧ ∀ (H' : Hp) (v : V), Stp b H H' → Bag H' b l → v ∈ xs → Q v H'
theorem i_of {H : Hp} {Q : VK} {E : XK} {b l a : Addr} {xs : List V} (hB : Bag H b l) (hx : SqL K H a xs) (ne : a ≠ b) (h0 : 0 < xs.length) (h1 : xs.length ≤ 100000) (q : ∀ (H' : Hp) (v : V), Stp b H H' → Bag H' b l → v ∈ xs → Q v H') : sp_law_of K [.ref b, .ref a] H Q E := ⟨b, l, a, xs, rfl, hB, hx, ne, h0, h1, q⟩
theorem ok_law_of (T : Txt K w mg Z) : FnOk P w K mg base CX0 2 Z.a_law_of Z.d_law_of ["_law_bag_here", "_law_some"] (sp_law_of K) := by
  have G_law_draw := ok_law_draw (P := P) (base := base) T
  refine T.F_law_of.ok sc_law_of (fun vs H Q E h => ?_) (fun cdv A outer s H vs Q E hr h => ?_)
  · obtain ⟨b, l, a, xs, rfl, _⟩ := h
    rfl
  · obtain ⟨b, l, a, xs, rfl, hB, hx, nab, h0, h1, k⟩ := h
    refine ⟨_, (pss_one (ps_ret (pe_ix (ix_list : IxR _ (rIxL K)) (pv 1) (pe_call G_law_draw (hr.mono (by omega)) (by rfl) T.m_law_draw T.F_law_draw.kp T.b_law_draw .nil pass0 (pa_cons (pv 0) (pa_cons (pe_callB (Go.c_len : CallR _ _ (Go.RLen K)) (by rfl) T.n_len boot_len (pa_cons (pv 1) pa_nil)) pa_nil))) (fun _ _ => rfl)))), ?_⟩
    rw [show L2.start N_law_of [V.ref b, V.ref a] = [some (V.ref b), some (V.ref a)] from rfl]
    try dsimp only [cxOf, Cx.nox]
    tm_at "go"
    rename_i v0 v1
    refine Go.ixLm (by tm_at "hpL") v0 v1 fun v hm => ?_
    tm_at "go"
    exact k _ _ (by tm_at "but") (by tm_at "bag") hm
local macro_rules | `(tactic| tm_at "sp") => `(tactic| ((with_reducible refine' i_of ?b ?x ?n ?y ?z ?_); (case b => tm_at "bag"); (case x => tm_at "hpL"); (case n => tm_at "ne"); (case y => exact Nat.le_of_ble_eq_true rfl); (case z => exact Nat.le_of_ble_eq_true rfl); intro _ _ _ _ _))
def sp_law_number : Sp := fun vs H Q _ => ∃ (b l : Addr), vs = [.ref b] ∧ Bag H b l ∧ ∀ (H' : Hp) (v : Int), Stp b H H' → Bag H' b l → 0 ≤ v → v ≤ 65535 → Q (.int v) H'
theorem i_number {H : Hp} {Q : VK} {E : XK} {b l : Addr} (hB : Bag H b l) (q : ∀ (H' : Hp) (v : Int), Stp b H H' → Bag H' b l → 0 ≤ v → v ≤ 65535 → Q (.int v) H') : sp_law_number [.ref b] H Q E := ⟨b, l, rfl, hB, q⟩
theorem ok_law_number (T : Txt K w mg Z) : FnOk P w K mg base CX0 3 Z.a_law_number Z.d_law_number ["_law_bag_here"] sp_law_number := by
  have G_law_draw := ok_law_draw (P := P) (base := base) T
  have G_law_of := ok_law_of (P := P) (base := base) T
  refine T.F_law_number.ok sc_law_number (fun vs H Q E h => ?_) (fun cdv A outer s H vs Q E hr h => ?_)
  · obtain ⟨b, l, rfl, _⟩ := h
    rfl
  · obtain ⟨b, l, rfl, hB, k⟩ := h
    refine ⟨_, (pss_one (ps_ret (pe_call G_law_of (hr.mono (by omega)) (by rfl) T.m_law_of T.F_law_of.kp T.b_law_of .nil pass0 (pa_cons (pv 0) (pa_cons (pe_lst (pa_cons pe_int (pa_cons pe_int (pa_cons pe_int (pa_cons pe_int (pa_cons pe_int (pa_cons pe_int (pa_cons pe_int (pa_cons pe_int (pa_cons pe_int (pa_cons pe_int (pa_cons pe_int (pa_cons pe_int (pa_cons (pe_call G_law_draw (hr.mono (by omega)) (by rfl) T.m_law_draw T.F_law_draw.kp T.b_law_draw .nil pass0 (pa_cons (pv 0) (pa_cons pe_int pa_nil))) pa_nil)))))))))))))) pa_nil))))), ?_⟩
    rw [show L2.start N_law_number [V.ref b] = [some (V.ref b)] from rfl]
    try dsimp only [cxOf, Cx.nox]
    tm_at "go"
    rename_i hm
    obtain ⟨n, rfl, n0, n1⟩ : ∃ n : Int, _ = V.int n ∧ 0 ≤ n ∧ n ≤ 65535 := by
      revert hm
      refine fun hm => (show ∀ y ∈ _, ∃ n : Int, y = V.int n ∧ 0 ≤ n ∧ n ≤ 65535 from ?_) _ hm
      tm_at "all"
      all_goals exact ⟨_, rfl, by omega, by omega⟩
    exact k _ _ (by tm_at "but") (by tm_at "bag") n0 n1
local macro_rules | `(tactic| tm_at "sp") => `(tactic| ((with_reducible refine' i_number ?b ?_); (case b => tm_at "bag"); intro _ _ _ _ _ _))

theorem cutS_le (z : Str) (lo hi : Option Int) : (cutS z lo hi).cps.size ≤ z.cps.size := by
  unfold cutS
  rw [List.size_toArray, List.length_take, List.length_drop, Array.length_toList]
  omega
theorem cutS_mem {z : Str} {lo hi : Option Int} {c : Nat} (h : c ∈ (cutS z lo hi).cps.toList) : c ∈ z.cps.toList := by
  unfold cutS at h
  exact List.mem_of_mem_drop (List.mem_of_mem_take (by simpa using h))
theorem size_app (a b : Str) : (a ++ b).cps.size = a.cps.size + b.cps.size := by
  show (a.cps ++ b.cps).size = _
  exact Array.size_append
theorem mem_app {a b : Str} {c : Nat} (h : c ∈ (a ++ b).cps.toList) : c ∈ a.cps.toList ∨ c ∈ b.cps.toList := by
  have h' : c ∈ (a.cps ++ b.cps).toList := h
  rw [Array.toList_append] at h'
  exact List.mem_append.mp h'
local macro_rules | `(tactic| tm_at "szs") => `(tactic| first | exact (‹∀ (lo hi : Option Int), (cutS _ lo hi).cps.size ≤ _› _ _) | exact Nat.le_refl 1 | (refine' Nat.le_trans (Nat.le_of_eq (size_app _ _)) (Nat.add_le_add ?a ?b); (case a => tm_at "szs"); (case b => tm_at "szs")))
/-- a list of so many texts, not the bag -/
def Wds (K : PySem.W.Frag) (H : Hp) (b t : Addr) (ts : List Str) : Prop := SqL K H t (ts.map V.str) ∧ t ≠ b ∧ ∀ z ∈ ts, StrK z
theorem Wds.same {K : PySem.W.Frag} {H H' : Hp} {b t : Addr} {ts : List Str} (s : Same H H') (h : Wds K H b t ts) : Wds K H' b t ts := ⟨Go.lS s h.1, h.2⟩
theorem Wds.but {K : PySem.W.Frag} {H H' : Hp} {b t : Addr} {ts : List Str} (s : Go.But b H H') (h : Wds K H b t ts) : Wds K H' b t ts := ⟨Go.lB s h.2.1 h.1, h.2⟩
local macro_rules | `(tactic| tm_at "wds") => `(tactic| first | assumption | (refine' Wds.same (by assumption) ?z0; (case z0 => tm_at "wds")) | (refine' Wds.but (by assumption) ?z0; (case z0 => tm_at "wds")))
def sp_law_words (K : PySem.W.Frag) : Sp := fun vs H Q _ => ∃ (b l : Addr) (n : Nat), vs = [.ref b, .int n] ∧ Bag H b l ∧ n ≤ 1000 ∧ ∀ (H' : Hp) (t : Addr) (ts : List Str), Stp b H H' → Bag H' b l → Wds K H' b t ts → ts.length = n → Q (.ref t) H'
theorem ok_law_words (T : Txt K w mg Z) : FnOk P w K mg base CX0 3 Z.a_law_words Z.d_law_words ["_law_bag_here", "_law_many"] (sp_law_words K) := by
  have G_law_draw := ok_law_draw (P := P) (base := base) T
  have G_law_of := ok_law_of (P := P) (base := base) T
  refine T.F_law_words.ok sc_law_words (fun vs H Q E h => ?_) (fun cdv A outer s H vs Q E hr h => ?_)
  · obtain ⟨b, l, n, rfl, _⟩ := h
    rfl
  · obtain ⟨b, l, n, rfl, hB, hn, k⟩ := h
    refine ⟨_, (pss_cons (ps_set (i := 2) sc_law_words.nd rfl (Or.inr rfl) (pe_call G_law_of (hr.mono (by omega)) (by rfl) T.m_law_of T.F_law_of.kp T.b_law_of .nil pass0 (pa_cons (pv 0) (pa_cons (pe_lst (pa_cons pe_str (pa_cons pe_str (pa_cons pe_str (pa_cons pe_str (pa_cons pe_str (pa_cons pe_str pa_nil))))))) pa_nil))))
      (pss_cons (ps_asg (pe_tup (pa_cons (pe_call G_law_draw (hr.mono (by omega)) (by rfl) T.m_law_draw T.F_law_draw.kp T.b_law_draw .nil pass0 (pa_cons (pv 0) (pa_cons (pe_op op_add (pe_callB (Go.c_len : CallR _ _ (Go.RLen K)) (by rfl) T.n_len boot_len (pa_cons (pv 2) pa_nil)) pe_int) pa_nil))) (pa_cons (pe_call G_law_draw (hr.mono (by omega)) (by rfl) T.m_law_draw T.F_law_draw.kp T.b_law_draw .nil pass0 (pa_cons (pv 0) (pa_cons pe_int pa_nil))) pa_nil))) (pg_tup (by rfl) (pgs_cons (pg_name (i := 3) sc_law_words.nd rfl (Or.inr rfl)) (pgs_cons (pg_name (i := 4) sc_law_words.nd rfl (Or.inr rfl)) pgs_nil))))
      (pss_cons (ps_set (i := 5) sc_law_words.nd rfl (Or.inr rfl) pe_str)
      (pss_one (ps_ret (pe_lc (own := [("_law_k", 6)]) (g := gName 6) (tt := tYes) rfl sc_law_words.nd (pi_range1 (by rfl) T.n_range (pa_cons (pv 1) pa_nil)) (blkOk_by (N := N_law_words) (sc := defScope s_law_words) (by decide +kernel)) (fun _ _ _ _ _ => pg_name (i := 6) sc_law_words.nd rfl (Or.inl rfl)) (fun _ _ _ _ _ => pts_nil) (fun _ _ _ _ _ => (pe_op Go.c_addS (pe_op Go.c_addS (pe_slice sl_str (pv 2) po_none (po_some (pv 3))) (pe_ix ix_str (pv 5) (pe_op op_mod (pe_callTy Go.c_int (by rfl) T.n_int boot_int (pa_cons (pe_op op_add (pv 4) (pe_op op_mul pe_int (pv 6))) pa_nil)) pe_int) (fun _ _ => rfl))) (pe_slice sl_str (pv 2) (po_some (pv 3)) po_none))))))))), ?_⟩
    rw [show L2.start N_law_words [V.ref b, V.int n] = [some (V.ref b), some (V.int n), none, none, none, none, none] from rfl]
    try dsimp only [cxOf, Cx.nox]
    tm_at "go"
    rename_i hm
    obtain ⟨tl, rfl, tz, ts⟩ : ∃ z : Str, _ = V.str z ∧ z.cps.size ≤ 5 ∧ ∀ c ∈ z.cps.toList, c < 1114112 := by
      revert hm
      refine fun hm => (show ∀ y ∈ _, ∃ z : Str, y = V.str z ∧ z.cps.size ≤ 5 ∧ ∀ c ∈ z.cps.toList, c < 1114112 from ?_) _ hm
      tm_at "all"
      all_goals exact ⟨_, rfl, by decide +kernel, by decide +kernel⟩
    tm_at "go"
    rw [Int.toNat_natCast]
    refine Go.lc_w (walk_range (lo := 0) (n := n)) (fun D i H' => Stp b H H' ∧ H D = none ∧ D ≠ b ∧ D ≠ l ∧ Bag H' b l ∧ i ≤ n ∧ ∃ ws : List Str, ws.length = i ∧ (∀ z ∈ ws, StrK z) ∧ H' D = some (.lst (ws.map V.str))) (by tm_at "wipe") ?_ ?_ ?_ ?_
    · intro D H2 n0 s2 e2
      have nb : D ≠ b := Bag.ne (by tm_at "bag") n0
      have nl : D ≠ l := Bag.nel (by tm_at "bag") n0
      exact ⟨by tm_at "but", by tm_at "non", nb, nl, by tm_at "bag", by omega, [], rfl, (fun _ m => nomatch m), e2⟩
    · intro D i H2 hi _
      trivial
    · rintro D i v H2 H3 hi ⟨s2, nD, nb, nl, B2, li, ws, lw, hw, e2⟩ ⟨rfl, rfl⟩
      have hc : ∀ lo hi, (cutS tl lo hi).cps.size ≤ 5 := fun lo hi => Nat.le_trans (cutS_le _ _ _) tz
      have h26 : (("abcdefghijklmnopqrstuvwxyz" : Str).cps.toList).length = 26 := by decide +kernel
      tm_at "go"
      rename_i c hm
      have hcl : c < 1114112 := (show ∀ c ∈ ("abcdefghijklmnopqrstuvwxyz" : Str).cps.toList, c < 1114112 by decide +kernel) c hm
      refine Go.lcEnd e2 (Go.lt_line (by rw [List.length_map]; omega)) fun H4 s4 e4 => ?_
      refine ⟨by tm_at "but", nD, nb, nl, by tm_at "bag", by omega, ws ++ [_], by rw [List.length_append, lw]; rfl, ?_, by rw [e4, List.map_append]; rfl⟩
      intro z hz
      rcases List.mem_append.mp hz with hz | hz
      · exact hw z hz
      · rw [List.mem_singleton.mp hz]
        refine ⟨?_, fun d hd => ?_⟩
        · exact Nat.le_trans (by tm_at "szs") (show 5 + 1 + 5 ≤ 100000 by decide)
        · rcases mem_app hd with hd | hd
          · rcases mem_app hd with hd | hd
            · exact ts d (cutS_mem hd)
            · have e : d = c := by simpa using hd
              rw [e]
              exact hcl
          · exact ts d (cutS_mem hd)
    · rintro D H2 ⟨s2, nD, nb, nl, B2, li, ws, lw, hw, e2⟩
      exact k _ _ ws s2 B2 ⟨SqL.of e2, nb, hw⟩ lw
def sp_is_value (K : PySem.W.Frag) : Sp := fun vs H Q _ => ∃ (v : V) (b : Addr) (d : PyData), vs = [v] ∧ Dt K H b v d ∧ Val d ∧ Q (.bl (adrD d)) H
theorem i_is_value {H : Hp} {Q : VK} {E : XK} {v : V} {b : Addr} {d : PyData} (h : Dt K H b v d) (hv : Val d) (q : Q (.bl (adrD d)) H) : sp_is_value K [v] H Q E := ⟨v, b, d, rfl, h, hv, q⟩
theorem ok_law_is_value (T : Txt K w mg Z) : FnOk P w K mg base CX0 1 Z.a_law_is_value Z.d_law_is_value ["_law_value"] (sp_is_value K) := by
  refine T.F_law_is_value.ok sc_law_is_value (fun vs H Q E h => ?_) (fun cdv A outer s H vs Q E hr h => ?_)
  · obtain ⟨v, b, d, rfl, _⟩ := h
    rfl
  · obtain ⟨v, b, d, rfl, h, hv, k⟩ := h
    cases hv with
    | w a0 a1 =>
      obtain rfl := h.word
      refine ⟨_, (pss_one (ps_ret (pe_callB (call_isi : CallR _ _ (rIsi K)) (by rfl) T.n_isinstance boot_isinstance (pa_cons (pv 0) (pa_cons (pe_bltn (v := .ty "tuple") (by rfl) T.n_tuple boot_tuple rfl) pa_nil))))), ?_⟩
      rw [show L2.start N_law_is_value [V.int _] = [some (V.int _)] from rfl]
      try dsimp only [cxOf, Cx.nox]
      tm_at "go"
      exact k
    | ad ai a0 a1 =>
      rw [val_a ai a0 a1] at k
      obtain ⟨p1, vi, vo, rfl, n1, e1, hi, ho⟩ := h.tri
      refine ⟨_, (pss_one (ps_ret (pe_callB (call_isi : CallR _ _ (rIsi K)) (by rfl) T.n_isinstance boot_isinstance (pa_cons (pv 0) (pa_cons (pe_bltn (v := .ty "tuple") (by rfl) T.n_tuple boot_tuple rfl) pa_nil))))), ?_⟩
      rw [show L2.start N_law_is_value [V.ref p1] = [some (V.ref p1)] from rfl]
      try dsimp only [cxOf, Cx.nox]
      tm_at "go"
      exact k
end
local macro_rules | `(tactic| tm_at "sp") => `(tactic| ((with_reducible refine' i_draw ?b ?x ?y ?_); (case b => tm_at "bag"); (case x => omega); (case y => omega); intro _ _ _ _ _ _))
local macro_rules | `(tactic| tm_at "sp") => `(tactic| ((with_reducible refine' i_of ?b ?x ?n ?y ?z ?_); (case b => tm_at "bag"); (case x => tm_at "hpL"); (case n => tm_at "ne"); (case y => exact Nat.le_of_ble_eq_true rfl); (case z => exact Nat.le_of_ble_eq_true rfl); intro _ _ _ _ _))
local macro_rules | `(tactic| tm_at "sp") => `(tactic| ((with_reducible refine' i_number ?b ?_); (case b => tm_at "bag"); intro _ _ _ _ _ _))
local macro_rules | `(tactic| tm_at "szs") => `(tactic| first | exact (‹∀ (lo hi : Option Int), (cutS _ lo hi).cps.size ≤ _› _ _) | exact Nat.le_refl 1 | (refine' Nat.le_trans (Nat.le_of_eq (size_app _ _)) (Nat.add_le_add ?a ?b); (case a => tm_at "szs"); (case b => tm_at "szs")))
local macro_rules | `(tactic| tm_at "wds") => `(tactic| first | assumption | (refine' Wds.same (by assumption) ?z0; (case z0 => tm_at "wds")) | (refine' Wds.but (by assumption) ?z0; (case z0 => tm_at "wds")))

section
variable {P : Program} {w : World} {K : PySem.W.Frag} {mg : Str → Option Value} {base : Heap} {Z : Fs}
local macro_rules | `(tactic| tm_at "carry") => `(tactic| first | assumption | (refine' Dt.same (by assumption) ?z0; (case z0 => tm_at "carry")) | (refine' Dt.but (by assumption) ?z0; (case z0 => tm_at "carry")))
local macro_rules | `(tactic| tm_at "sp") => `(tactic| ((with_reducible refine' i_is_value ?h ?v ?_); (case h => tm_at "dt"); (case v => first | assumption | exact .w (by assumption) (by assumption) | exact .ad (by assumption) (by assumption) (by assumption))))
theorem ok_law_sum (T : Txt K w mg Z) : FnOk P w K mg base CX0 2 Z.a_law_sum Z.d_law_sum ["_law_one", "_law_other"] (sp_two K sumD) := by
  have G_law_is_value := ok_law_is_value (P := P) (base := base) T
  refine T.F_law_sum.ok sc_law_sum (fun vs H Q E h => ?_) (fun cdv A outer s H vs Q E hr h => ?_)
  · obtain ⟨v, w, b, d, e, rfl, _⟩ := h
    rfl
  · obtain ⟨v, w, b, d, e, rfl, ⟨u, hb⟩, h1, h2, v1, v2, k⟩ := h
    cases v1 with
    | w a0 a1 =>
      obtain rfl := h1.word
      cases v2 with
      | w b0 b1 =>
        obtain rfl := h2.word
        refine ⟨_, (pss_cons (ps_if (PW.pt (pw_and (pt_val (pe_call G_law_is_value (hr.mono (by omega)) (by rfl) T.m_law_is_value T.F_law_is_value.kp T.b_law_is_value .nil pass0 (pa_cons (pv 0) pa_nil))) (pw_and1 (pt_val (pe_call G_law_is_value (hr.mono (by omega)) (by rfl) T.m_law_is_value T.F_law_is_value.kp T.b_law_is_value .nil pass0 (pa_cons (pv 1) pa_nil)))))) (pss_one (ps_ret pe_non)) pss_nil)
      (pss_cons (ps_if (pt_val (pe_call G_law_is_value (hr.mono (by omega)) (by rfl) T.m_law_is_value T.F_law_is_value.kp T.b_law_is_value .nil pass0 (pa_cons (pv 0) pa_nil))) (pss_one (ps_ret (pe_tup (pa_cons (pe_ix (ix_tup : IxR _ (rIxT K)) (pv 0) pe_int (fun _ _ => rfl)) (pa_cons (pe_ix (ix_tup : IxR _ (rIxT K)) (pv 0) pe_int (fun _ _ => rfl)) (pa_cons (pe_op op_mod (pe_callTy Go.c_int (by rfl) T.n_int boot_int (pa_cons (pe_op op_add (pe_ix (ix_tup : IxR _ (rIxT K)) (pv 0) pe_int (fun _ _ => rfl)) (pv 1)) pa_nil)) pe_int) pa_nil)))))) pss_nil)
      (pss_cons (ps_if (pt_val (pe_call G_law_is_value (hr.mono (by omega)) (by rfl) T.m_law_is_value T.F_law_is_value.kp T.b_law_is_value .nil pass0 (pa_cons (pv 1) pa_nil))) (pss_one (ps_ret (pe_tup (pa_cons (pe_ix (ix_tup : IxR _ (rIxT K)) (pv 1) pe_int (fun _ _ => rfl)) (pa_cons (pe_ix (ix_tup : IxR _ (rIxT K)) (pv 1) pe_int (fun _ _ => rfl)) (pa_cons (pe_op op_mod (pe_callTy Go.c_int (by rfl) T.n_int boot_int (pa_cons (pe_op op_add (pe_ix (ix_tup : IxR _ (rIxT K)) (pv 1) pe_int (fun _ _ => rfl)) (pv 0)) pa_nil)) pe_int) pa_nil)))))) pss_nil)
      (pss_one (ps_ret (pe_op op_mod (pe_callTy Go.c_int (by rfl) T.n_int boot_int (pa_cons (pe_op op_add (pv 0) (pv 1)) pa_nil)) pe_int)))))), ?_⟩
        rw [show L2.start N_law_sum [V.int _, V.int _] = [some (V.int _), some (V.int _)] from rfl]
        try dsimp only [cxOf, Cx.nox]
        tm_at "go"
        exact k _ _ (by tm_at "same") (.int _)
      | @ad i x s1 s2 s3 bi b0 b1 =>
        have q3 := val_a (a := s1) (b := s2) (c := s3) bi b0 b1
        obtain ⟨p2, wi, wo, rfl, n2, e2, hj, hp⟩ := h2.tri
        refine ⟨_, (pss_cons (ps_if (PW.pt (pw_and (pt_val (pe_call G_law_is_value (hr.mono (by omega)) (by rfl) T.m_law_is_value T.F_law_is_value.kp T.b_law_is_value .nil pass0 (pa_cons (pv 0) pa_nil))) (pw_and1 (pt_val (pe_call G_law_is_value (hr.mono (by omega)) (by rfl) T.m_law_is_value T.F_law_is_value.kp T.b_law_is_value .nil pass0 (pa_cons (pv 1) pa_nil)))))) (pss_one (ps_ret pe_non)) pss_nil)
      (pss_cons (ps_if (pt_val (pe_call G_law_is_value (hr.mono (by omega)) (by rfl) T.m_law_is_value T.F_law_is_value.kp T.b_law_is_value .nil pass0 (pa_cons (pv 0) pa_nil))) (pss_one (ps_ret (pe_tup (pa_cons (pe_ix (ix_tup : IxR _ (rIxT K)) (pv 0) pe_int (fun _ _ => rfl)) (pa_cons (pe_ix (ix_tup : IxR _ (rIxT K)) (pv 0) pe_int (fun _ _ => rfl)) (pa_cons (pe_op op_mod (pe_callTy Go.c_int (by rfl) T.n_int boot_int (pa_cons (pe_op op_add (pe_ix (ix_tup : IxR _ (rIxT K)) (pv 0) pe_int (fun _ _ => rfl)) (pv 1)) pa_nil)) pe_int) pa_nil)))))) pss_nil)
      (pss_cons (ps_if (pt_val (pe_call G_law_is_value (hr.mono (by omega)) (by rfl) T.m_law_is_value T.F_law_is_value.kp T.b_law_is_value .nil pass0 (pa_cons (pv 1) pa_nil))) (pss_one (ps_ret (pe_tup (pa_cons (pe_ix (ix_tup : IxR _ (rIxT K)) (pv 1) pe_int (fun _ _ => rfl)) (pa_cons (pe_ix (ix_tup : IxR _ (rIxT K)) (pv 1) pe_int (fun _ _ => rfl)) (pa_cons (pe_op op_mod (pe_callTy Go.c_int (by rfl) T.n_int boot_int (pa_cons (pe_op op_add (pe_ix (ix_tup : IxR _ (rIxT K)) (pv 1) pe_int (fun _ _ => rfl)) (pv 0)) pa_nil)) pe_int) pa_nil)))))) pss_nil)
      (pss_one (ps_ret (pe_op op_mod (pe_callTy Go.c_int (by rfl) T.n_int boot_int (pa_cons (pe_op op_add (pv 0) (pv 1)) pa_nil)) pe_int)))))), ?_⟩
        rw [show L2.start N_law_sum [V.int _, V.ref p2] = [some (V.int _), some (V.ref p2)] from rfl]
        try dsimp only [cxOf, Cx.nox]
        tm_at "go"
        rename_i x1 H3 m1 c1 f1
        have nb1 : x1 ≠ b := (ne_of_none (by tm_at "hpO") m1).symm
        exact k _ _ (by tm_at "same") (Dt.tri_mk f1 nb1 (by tm_at "dt") (by tm_at "dt"))
    | @ad i x s1 s2 s3 ai a0 a1 =>
      have q1 := val_a (a := s1) (b := s2) (c := s3) ai a0 a1
      obtain ⟨p1, vi, vo, rfl, n1, e1, hi, ho⟩ := h1.tri
      cases v2 with
      | w b0 b1 =>
        obtain rfl := h2.word
        refine ⟨_, (pss_cons (ps_if (PW.pt (pw_and (pt_val (pe_call G_law_is_value (hr.mono (by omega)) (by rfl) T.m_law_is_value T.F_law_is_value.kp T.b_law_is_value .nil pass0 (pa_cons (pv 0) pa_nil))) (pw_and1 (pt_val (pe_call G_law_is_value (hr.mono (by omega)) (by rfl) T.m_law_is_value T.F_law_is_value.kp T.b_law_is_value .nil pass0 (pa_cons (pv 1) pa_nil)))))) (pss_one (ps_ret pe_non)) pss_nil)
      (pss_cons (ps_if (pt_val (pe_call G_law_is_value (hr.mono (by omega)) (by rfl) T.m_law_is_value T.F_law_is_value.kp T.b_law_is_value .nil pass0 (pa_cons (pv 0) pa_nil))) (pss_one (ps_ret (pe_tup (pa_cons (pe_ix (ix_tup : IxR _ (rIxT K)) (pv 0) pe_int (fun _ _ => rfl)) (pa_cons (pe_ix (ix_tup : IxR _ (rIxT K)) (pv 0) pe_int (fun _ _ => rfl)) (pa_cons (pe_op op_mod (pe_callTy Go.c_int (by rfl) T.n_int boot_int (pa_cons (pe_op op_add (pe_ix (ix_tup : IxR _ (rIxT K)) (pv 0) pe_int (fun _ _ => rfl)) (pv 1)) pa_nil)) pe_int) pa_nil)))))) pss_nil)
      (pss_cons (ps_if (pt_val (pe_call G_law_is_value (hr.mono (by omega)) (by rfl) T.m_law_is_value T.F_law_is_value.kp T.b_law_is_value .nil pass0 (pa_cons (pv 1) pa_nil))) (pss_one (ps_ret (pe_tup (pa_cons (pe_ix (ix_tup : IxR _ (rIxT K)) (pv 1) pe_int (fun _ _ => rfl)) (pa_cons (pe_ix (ix_tup : IxR _ (rIxT K)) (pv 1) pe_int (fun _ _ => rfl)) (pa_cons (pe_op op_mod (pe_callTy Go.c_int (by rfl) T.n_int boot_int (pa_cons (pe_op op_add (pe_ix (ix_tup : IxR _ (rIxT K)) (pv 1) pe_int (fun _ _ => rfl)) (pv 0)) pa_nil)) pe_int) pa_nil)))))) pss_nil)
      (pss_one (ps_ret (pe_op op_mod (pe_callTy Go.c_int (by rfl) T.n_int boot_int (pa_cons (pe_op op_add (pv 0) (pv 1)) pa_nil)) pe_int)))))), ?_⟩
        rw [show L2.start N_law_sum [V.ref p1, V.int _] = [some (V.ref p1), some (V.int _)] from rfl]
        try dsimp only [cxOf, Cx.nox]
        tm_at "go"
        rename_i x1 H3 m1 c1 f1
        have nb1 : x1 ≠ b := (ne_of_none (by tm_at "hpO") m1).symm
        exact k _ _ (by tm_at "same") (Dt.tri_mk f1 nb1 (by tm_at "dt") (by tm_at "dt"))
      | @ad j y t1 t2 t3 bi b0 b1 =>
        have q3 := val_a (a := t1) (b := t2) (c := t3) bi b0 b1
        obtain ⟨p2, wi, wo, rfl, n2, e2, hj, hp⟩ := h2.tri
        refine ⟨_, (pss_cons (ps_if (PW.pt (pw_and (pt_val (pe_call G_law_is_value (hr.mono (by omega)) (by rfl) T.m_law_is_value T.F_law_is_value.kp T.b_law_is_value .nil pass0 (pa_cons (pv 0) pa_nil))) (pw_and1 (pt_val (pe_call G_law_is_value (hr.mono (by omega)) (by rfl) T.m_law_is_value T.F_law_is_value.kp T.b_law_is_value .nil pass0 (pa_cons (pv 1) pa_nil)))))) (pss_one (ps_ret pe_non)) pss_nil)
      (pss_cons (ps_if (pt_val (pe_call G_law_is_value (hr.mono (by omega)) (by rfl) T.m_law_is_value T.F_law_is_value.kp T.b_law_is_value .nil pass0 (pa_cons (pv 0) pa_nil))) (pss_one (ps_ret (pe_tup (pa_cons (pe_ix (ix_tup : IxR _ (rIxT K)) (pv 0) pe_int (fun _ _ => rfl)) (pa_cons (pe_ix (ix_tup : IxR _ (rIxT K)) (pv 0) pe_int (fun _ _ => rfl)) (pa_cons (pe_op op_mod (pe_callTy Go.c_int (by rfl) T.n_int boot_int (pa_cons (pe_op op_add (pe_ix (ix_tup : IxR _ (rIxT K)) (pv 0) pe_int (fun _ _ => rfl)) (pv 1)) pa_nil)) pe_int) pa_nil)))))) pss_nil)
      (pss_cons (ps_if (pt_val (pe_call G_law_is_value (hr.mono (by omega)) (by rfl) T.m_law_is_value T.F_law_is_value.kp T.b_law_is_value .nil pass0 (pa_cons (pv 1) pa_nil))) (pss_one (ps_ret (pe_tup (pa_cons (pe_ix (ix_tup : IxR _ (rIxT K)) (pv 1) pe_int (fun _ _ => rfl)) (pa_cons (pe_ix (ix_tup : IxR _ (rIxT K)) (pv 1) pe_int (fun _ _ => rfl)) (pa_cons (pe_op op_mod (pe_callTy Go.c_int (by rfl) T.n_int boot_int (pa_cons (pe_op op_add (pe_ix (ix_tup : IxR _ (rIxT K)) (pv 1) pe_int (fun _ _ => rfl)) (pv 0)) pa_nil)) pe_int) pa_nil)))))) pss_nil)
      (pss_one (ps_ret (pe_op op_mod (pe_callTy Go.c_int (by rfl) T.n_int boot_int (pa_cons (pe_op op_add (pv 0) (pv 1)) pa_nil)) pe_int)))))), ?_⟩
        rw [show L2.start N_law_sum [V.ref p1, V.ref p2] = [some (V.ref p1), some (V.ref p2)] from rfl]
        try dsimp only [cxOf, Cx.nox]
        tm_at "go"
        exact k _ _ (by tm_at "same") .non
theorem ok_law_less (T : Txt K w mg Z) : FnOk P w K mg base CX0 2 Z.a_law_less Z.d_law_less ["_law_one", "_law_other"] (sp_two K lesD) := by
  have G_law_is_value := ok_law_is_value (P := P) (base := base) T
  refine T.F_law_less.ok sc_law_less (fun vs H Q E h => ?_) (fun cdv A outer s H vs Q E hr h => ?_)
  · obtain ⟨v, w, b, d, e, rfl, _⟩ := h
    rfl
  · obtain ⟨v, w, b, d, e, rfl, ⟨u, hb⟩, h1, h2, v1, v2, k⟩ := h
    cases v1 with
    | w a0 a1 =>
      obtain rfl := h1.word
      cases v2 with
      | w b0 b1 =>
        obtain rfl := h2.word
        refine ⟨_, (pss_cons (ps_if (PW.pt (pw_and (pt_val (pe_call G_law_is_value (hr.mono (by omega)) (by rfl) T.m_law_is_value T.F_law_is_value.kp T.b_law_is_value .nil pass0 (pa_cons (pv 0) pa_nil))) (pw_and1 (pt_val (pe_call G_law_is_value (hr.mono (by omega)) (by rfl) T.m_law_is_value T.F_law_is_value.kp T.b_law_is_value .nil pass0 (pa_cons (pv 1) pa_nil)))))) (pss_one (ps_ret (pe_ifExp (pt_cmpR (op_eqD hr.units) (pe_slice (sl_tup : SlR _ (rSlT K)) (pv 0) po_none (po_some pe_int)) (pe_slice (sl_tup : SlR _ (rSlT K)) (pv 1) po_none (po_some pe_int)) (nomark _)) (pe_op op_mod (pe_callTy Go.c_int (by rfl) T.n_int boot_int (pa_cons (pe_op op_sub (pe_ix (ix_tup : IxR _ (rIxT K)) (pv 0) pe_int (fun _ _ => rfl)) (pe_ix (ix_tup : IxR _ (rIxT K)) (pv 1) pe_int (fun _ _ => rfl))) pa_nil)) pe_int) pe_non))) pss_nil)
      (pss_cons (ps_if (pt_val (pe_call G_law_is_value (hr.mono (by omega)) (by rfl) T.m_law_is_value T.F_law_is_value.kp T.b_law_is_value .nil pass0 (pa_cons (pv 1) pa_nil))) (pss_one (ps_ret pe_non)) pss_nil)
      (pss_cons (ps_if (pt_val (pe_call G_law_is_value (hr.mono (by omega)) (by rfl) T.m_law_is_value T.F_law_is_value.kp T.b_law_is_value .nil pass0 (pa_cons (pv 0) pa_nil))) (pss_one (ps_ret (pe_tup (pa_cons (pe_ix (ix_tup : IxR _ (rIxT K)) (pv 0) pe_int (fun _ _ => rfl)) (pa_cons (pe_ix (ix_tup : IxR _ (rIxT K)) (pv 0) pe_int (fun _ _ => rfl)) (pa_cons (pe_op op_mod (pe_callTy Go.c_int (by rfl) T.n_int boot_int (pa_cons (pe_op op_sub (pe_ix (ix_tup : IxR _ (rIxT K)) (pv 0) pe_int (fun _ _ => rfl)) (pv 1)) pa_nil)) pe_int) pa_nil)))))) pss_nil)
      (pss_one (ps_ret (pe_op op_mod (pe_callTy Go.c_int (by rfl) T.n_int boot_int (pa_cons (pe_op op_sub (pv 0) (pv 1)) pa_nil)) pe_int)))))), ?_⟩
        rw [show L2.start N_law_less [V.int _, V.int _] = [some (V.int _), some (V.int _)] from rfl]
        try dsimp only [cxOf, Cx.nox]
        tm_at "go"
        exact k _ _ (by tm_at "same") (.int _)
      | @ad i x s1 s2 s3 bi b0 b1 =>
        have q3 := val_a (a := s1) (b := s2) (c := s3) bi b0 b1
        obtain ⟨p2, wi, wo, rfl, n2, e2, hj, hp⟩ := h2.tri
        refine ⟨_, (pss_cons (ps_if (PW.pt (pw_and (pt_val (pe_call G_law_is_value (hr.mono (by omega)) (by rfl) T.m_law_is_value T.F_law_is_value.kp T.b_law_is_value .nil pass0 (pa_cons (pv 0) pa_nil))) (pw_and1 (pt_val (pe_call G_law_is_value (hr.mono (by omega)) (by rfl) T.m_law_is_value T.F_law_is_value.kp T.b_law_is_value .nil pass0 (pa_cons (pv 1) pa_nil)))))) (pss_one (ps_ret (pe_ifExp (pt_cmpR (op_eqD hr.units) (pe_slice (sl_tup : SlR _ (rSlT K)) (pv 0) po_none (po_some pe_int)) (pe_slice (sl_tup : SlR _ (rSlT K)) (pv 1) po_none (po_some pe_int)) (nomark _)) (pe_op op_mod (pe_callTy Go.c_int (by rfl) T.n_int boot_int (pa_cons (pe_op op_sub (pe_ix (ix_tup : IxR _ (rIxT K)) (pv 0) pe_int (fun _ _ => rfl)) (pe_ix (ix_tup : IxR _ (rIxT K)) (pv 1) pe_int (fun _ _ => rfl))) pa_nil)) pe_int) pe_non))) pss_nil)
      (pss_cons (ps_if (pt_val (pe_call G_law_is_value (hr.mono (by omega)) (by rfl) T.m_law_is_value T.F_law_is_value.kp T.b_law_is_value .nil pass0 (pa_cons (pv 1) pa_nil))) (pss_one (ps_ret pe_non)) pss_nil)
      (pss_cons (ps_if (pt_val (pe_call G_law_is_value (hr.mono (by omega)) (by rfl) T.m_law_is_value T.F_law_is_value.kp T.b_law_is_value .nil pass0 (pa_cons (pv 0) pa_nil))) (pss_one (ps_ret (pe_tup (pa_cons (pe_ix (ix_tup : IxR _ (rIxT K)) (pv 0) pe_int (fun _ _ => rfl)) (pa_cons (pe_ix (ix_tup : IxR _ (rIxT K)) (pv 0) pe_int (fun _ _ => rfl)) (pa_cons (pe_op op_mod (pe_callTy Go.c_int (by rfl) T.n_int boot_int (pa_cons (pe_op op_sub (pe_ix (ix_tup : IxR _ (rIxT K)) (pv 0) pe_int (fun _ _ => rfl)) (pv 1)) pa_nil)) pe_int) pa_nil)))))) pss_nil)
      (pss_one (ps_ret (pe_op op_mod (pe_callTy Go.c_int (by rfl) T.n_int boot_int (pa_cons (pe_op op_sub (pv 0) (pv 1)) pa_nil)) pe_int)))))), ?_⟩
        rw [show L2.start N_law_less [V.int _, V.ref p2] = [some (V.int _), some (V.ref p2)] from rfl]
        try dsimp only [cxOf, Cx.nox]
        tm_at "go"
        exact k _ _ (by tm_at "same") .non
    | @ad i x s1 s2 s3 ai a0 a1 =>
      have q1 := val_a (a := s1) (b := s2) (c := s3) ai a0 a1
      obtain ⟨p1, vi, vo, rfl, n1, e1, hi, ho⟩ := h1.tri
      cases v2 with
      | w b0 b1 =>
        obtain rfl := h2.word
        refine ⟨_, (pss_cons (ps_if (PW.pt (pw_and (pt_val (pe_call G_law_is_value (hr.mono (by omega)) (by rfl) T.m_law_is_value T.F_law_is_value.kp T.b_law_is_value .nil pass0 (pa_cons (pv 0) pa_nil))) (pw_and1 (pt_val (pe_call G_law_is_value (hr.mono (by omega)) (by rfl) T.m_law_is_value T.F_law_is_value.kp T.b_law_is_value .nil pass0 (pa_cons (pv 1) pa_nil)))))) (pss_one (ps_ret (pe_ifExp (pt_cmpR (op_eqD hr.units) (pe_slice (sl_tup : SlR _ (rSlT K)) (pv 0) po_none (po_some pe_int)) (pe_slice (sl_tup : SlR _ (rSlT K)) (pv 1) po_none (po_some pe_int)) (nomark _)) (pe_op op_mod (pe_callTy Go.c_int (by rfl) T.n_int boot_int (pa_cons (pe_op op_sub (pe_ix (ix_tup : IxR _ (rIxT K)) (pv 0) pe_int (fun _ _ => rfl)) (pe_ix (ix_tup : IxR _ (rIxT K)) (pv 1) pe_int (fun _ _ => rfl))) pa_nil)) pe_int) pe_non))) pss_nil)
      (pss_cons (ps_if (pt_val (pe_call G_law_is_value (hr.mono (by omega)) (by rfl) T.m_law_is_value T.F_law_is_value.kp T.b_law_is_value .nil pass0 (pa_cons (pv 1) pa_nil))) (pss_one (ps_ret pe_non)) pss_nil)
      (pss_cons (ps_if (pt_val (pe_call G_law_is_value (hr.mono (by omega)) (by rfl) T.m_law_is_value T.F_law_is_value.kp T.b_law_is_value .nil pass0 (pa_cons (pv 0) pa_nil))) (pss_one (ps_ret (pe_tup (pa_cons (pe_ix (ix_tup : IxR _ (rIxT K)) (pv 0) pe_int (fun _ _ => rfl)) (pa_cons (pe_ix (ix_tup : IxR _ (rIxT K)) (pv 0) pe_int (fun _ _ => rfl)) (pa_cons (pe_op op_mod (pe_callTy Go.c_int (by rfl) T.n_int boot_int (pa_cons (pe_op op_sub (pe_ix (ix_tup : IxR _ (rIxT K)) (pv 0) pe_int (fun _ _ => rfl)) (pv 1)) pa_nil)) pe_int) pa_nil)))))) pss_nil)
      (pss_one (ps_ret (pe_op op_mod (pe_callTy Go.c_int (by rfl) T.n_int boot_int (pa_cons (pe_op op_sub (pv 0) (pv 1)) pa_nil)) pe_int)))))), ?_⟩
        rw [show L2.start N_law_less [V.ref p1, V.int _] = [some (V.ref p1), some (V.int _)] from rfl]
        try dsimp only [cxOf, Cx.nox]
        tm_at "go"
        rename_i x1 H3 m1 c1 f1
        have nb1 : x1 ≠ b := (ne_of_none (by tm_at "hpO") m1).symm
        exact k _ _ (by tm_at "same") (Dt.tri_mk f1 nb1 (by tm_at "dt") (by tm_at "dt"))
      | @ad j y t1 t2 t3 bi b0 b1 =>
        have q3 := val_a (a := t1) (b := t2) (c := t3) bi b0 b1
        obtain ⟨p2, wi, wo, rfl, n2, e2, hj, hp⟩ := h2.tri
        refine ⟨_, (pss_cons (ps_if (PW.pt (pw_and (pt_val (pe_call G_law_is_value (hr.mono (by omega)) (by rfl) T.m_law_is_value T.F_law_is_value.kp T.b_law_is_value .nil pass0 (pa_cons (pv 0) pa_nil))) (pw_and1 (pt_val (pe_call G_law_is_value (hr.mono (by omega)) (by rfl) T.m_law_is_value T.F_law_is_value.kp T.b_law_is_value .nil pass0 (pa_cons (pv 1) pa_nil)))))) (pss_one (ps_ret (pe_ifExp (pt_cmpR (op_eqD hr.units) (pe_slice (sl_tup : SlR _ (rSlT K)) (pv 0) po_none (po_some pe_int)) (pe_slice (sl_tup : SlR _ (rSlT K)) (pv 1) po_none (po_some pe_int)) (nomark _)) (pe_op op_mod (pe_callTy Go.c_int (by rfl) T.n_int boot_int (pa_cons (pe_op op_sub (pe_ix (ix_tup : IxR _ (rIxT K)) (pv 0) pe_int (fun _ _ => rfl)) (pe_ix (ix_tup : IxR _ (rIxT K)) (pv 1) pe_int (fun _ _ => rfl))) pa_nil)) pe_int) pe_non))) pss_nil)
      (pss_cons (ps_if (pt_val (pe_call G_law_is_value (hr.mono (by omega)) (by rfl) T.m_law_is_value T.F_law_is_value.kp T.b_law_is_value .nil pass0 (pa_cons (pv 1) pa_nil))) (pss_one (ps_ret pe_non)) pss_nil)
      (pss_cons (ps_if (pt_val (pe_call G_law_is_value (hr.mono (by omega)) (by rfl) T.m_law_is_value T.F_law_is_value.kp T.b_law_is_value .nil pass0 (pa_cons (pv 0) pa_nil))) (pss_one (ps_ret (pe_tup (pa_cons (pe_ix (ix_tup : IxR _ (rIxT K)) (pv 0) pe_int (fun _ _ => rfl)) (pa_cons (pe_ix (ix_tup : IxR _ (rIxT K)) (pv 0) pe_int (fun _ _ => rfl)) (pa_cons (pe_op op_mod (pe_callTy Go.c_int (by rfl) T.n_int boot_int (pa_cons (pe_op op_sub (pe_ix (ix_tup : IxR _ (rIxT K)) (pv 0) pe_int (fun _ _ => rfl)) (pv 1)) pa_nil)) pe_int) pa_nil)))))) pss_nil)
      (pss_one (ps_ret (pe_op op_mod (pe_callTy Go.c_int (by rfl) T.n_int boot_int (pa_cons (pe_op op_sub (pv 0) (pv 1)) pa_nil)) pe_int)))))), ?_⟩
        rw [show L2.start N_law_less [V.ref p1, V.ref p2] = [some (V.ref p1), some (V.ref p2)] from rfl]
        try dsimp only [cxOf, Cx.nox]
        tm_at "go"
        rename_i x1 H3 m1 c1 f1 x2 H4 m2 c2 f2
        have nb1 : x1 ≠ b := (ne_of_none (by tm_at "hpO") m1).symm
        have nb2 : x2 ≠ b := (ne_of_none (by tm_at "hpO") m2).symm
        have d1 : Dt K H4 b (.ref x1) (.tuple [.int i, .tuple [.str s1, .str s2, .str s3]]) := Dt.head2 (by tm_at "hpO") nb1 (by tm_at "dt") (by tm_at "dt")
        have d2 : Dt K H4 b (.ref x2) (.tuple [.int j, .tuple [.str t1, .str t2, .str t3]]) := Dt.head2 (by tm_at "hpO") nb2 (by tm_at "dt") (by tm_at "dt")
        refine Go.eqD d1.dp d2.dp (shp d1.lay rfl) (shp d2.lay rfl) ?_
        tm_at "go"
        · rename_i he
          have e : lesD (.tuple [.int i, .tuple [.str s1, .str s2, .str s3], .int x]) (.tuple [.int j, .tuple [.str t1, .str t2, .str t3], .int y]) = .int ((x - y) % 65536) := if_pos he
          refine k _ _ (by tm_at "same") ?_
          rw [e]
          exact .int _
        · rename_i he
          have e : lesD (.tuple [.int i, .tuple [.str s1, .str s2, .str s3], .int x]) (.tuple [.int j, .tuple [.str t1, .str t2, .str t3], .int y]) = .none := if_neg (by rw [he]; decide)
          refine k _ _ (by tm_at "same") ?_
          rw [e]
          exact .non
/-- some odd thing: no address value -/
def Odd (K : PySem.W.Frag) (H : Hp) (b : Addr) (v : V) : Prop := ∃ d, Dt K H b v d ∧ adrD d = false
def sp_law_nest (K : PySem.W.Frag) : Sp := fun vs H Q _ => ∃ (b : Addr), vs = [] ∧ (∃ u, H b = some u) ∧ ∀ (H' : Hp) (p : Addr), Same H H' → Dt K H' b (.ref p) (.tuple [.tuple [.tuple [.tuple [.str "a"]]]]) → Q (.ref p) H'
theorem i_nest {H : Hp} {Q : VK} {E : XK} {b : Addr} (hb : ∃ u, H b = some u) (q : ∀ (H' : Hp) (p : Addr), Same H H' → Dt K H' b (.ref p) (.tuple [.tuple [.tuple [.tuple [.str "a"]]]]) → Q (.ref p) H') : sp_law_nest K [] H Q E := ⟨b, rfl, hb, q⟩
theorem ok_law_nest (T : Txt K w mg Z) : FnOk P w K mg base CX0 1 Z.a_law_nest Z.d_law_nest [] (sp_law_nest K) := by
  refine T.F_law_nest.ok sc_law_nest (fun vs H Q E h => ?_) (fun cdv A outer s H vs Q E hr h => ?_)
  · obtain ⟨b, rfl, _⟩ := h
    rfl
  · obtain ⟨b, rfl, ⟨u, hb⟩, k⟩ := h
    refine ⟨_, (pss_one (ps_ret (pe_tup (pa_cons (pe_tup (pa_cons (pe_tup (pa_cons (pe_tup (pa_cons pe_str pa_nil)) pa_nil)) pa_nil)) pa_nil)))), ?_⟩
    rw [show L2.start N_law_nest [] = [] from rfl]
    try dsimp only [cxOf, Cx.nox]
    tm_at "go"
    rename_i x1 H1 m1 c1 f1 x2 H2 m2 c2 f2 x3 H3 m3 c3 f3 x4 H4 m4 c4 f4
    have nb1 : x1 ≠ b := (ne_of_none (by tm_at "hpO") m1).symm
    have nb2 : x2 ≠ b := (ne_of_none (by tm_at "hpO") m2).symm
    have nb3 : x3 ≠ b := (ne_of_none (by tm_at "hpO") m3).symm
    have nb4 : x4 ≠ b := (ne_of_none (by tm_at "hpO") m4).symm
    exact k _ _ (by tm_at "same") (by tm_at "dt")
local macro_rules | `(tactic| tm_at "sp") => `(tactic| ((with_reducible refine' i_nest ?b ?_); (case b => first | exact Bag.at (by tm_at "bag") | exact ⟨_, by tm_at "hpO"⟩); intro _ _ _ _))
def sp_law_odd (K : PySem.W.Frag) : Sp := fun vs H Q _ => ∃ (b l : Addr), vs = [.ref b] ∧ Bag H b l ∧ ∀ (H' : Hp) (v : V) (d : PyData), Stp b H H' → Bag H' b l → Dt K H' b v d → adrD d = false → Q v H'
theorem i_odd {H : Hp} {Q : VK} {E : XK} {b l : Addr} (hB : Bag H b l) (q : ∀ (H' : Hp) (v : V) (d : PyData), Stp b H H' → Bag H' b l → Dt K H' b v d → adrD d = false → Q v H') : sp_law_odd K [.ref b] H Q E := ⟨b, l, rfl, hB, q⟩
theorem ok_law_odd (T : Txt K w mg Z) : FnOk P w K mg base CX0 3 Z.a_law_odd Z.d_law_odd ["_law_bag_here"] (sp_law_odd K) := by
  have G_law_of := ok_law_of (P := P) (base := base) T
  have G_law_nest := ok_law_nest (P := P) (base := base) T
  refine T.F_law_odd.ok sc_law_odd (fun vs H Q E h => ?_) (fun cdv A outer s H vs Q E hr h => ?_)
  · obtain ⟨b, l, rfl, _⟩ := h
    rfl
  · obtain ⟨b, l, rfl, hB, k⟩ := h
    refine ⟨_, (pss_one (ps_ret (pe_call G_law_of (hr.mono (by omega)) (by rfl) T.m_law_of T.F_law_of.kp T.b_law_of .nil pass0 (pa_cons (pv 0) (pa_cons (pe_lst (pa_cons pe_non (pa_cons pe_bl (pa_cons pe_bl (pa_cons pe_int (pa_cons (pe_un un_neg pe_int) (pa_cons pe_str (pa_cons pe_str (pa_cons pe_str (pa_cons (pe_tup pa_nil) (pa_cons (pe_tup (pa_cons pe_str (pa_cons pe_int pa_nil))) (pa_cons (pe_lst (pa_cons pe_str pa_nil)) (pa_cons (pe_call0 G_law_nest (hr.mono (by omega)) (by rfl) T.m_law_nest T.F_law_nest.kp T.b_law_nest .nil pass0 ) (pa_cons (pe_tup (pa_cons pe_non (pa_cons pe_str (pa_cons pe_int pa_nil)))) pa_nil)))))))))))))) pa_nil))))), ?_⟩
    rw [show L2.start N_law_odd [V.ref b] = [some (V.ref b)] from rfl]
    try dsimp only [cxOf, Cx.nox]
    tm_at "go"
    rename_i H9 v9 s9 B9 hm
    obtain ⟨d, hd, ha⟩ : Odd K H9 b v9 := by
      revert hm
      refine fun hm => (show ∀ y ∈ _, Odd K H9 b y from ?_) _ hm
      tm_at "all"
      all_goals first | exact ⟨_, .non, rfl⟩ | exact ⟨_, .bl _, rfl⟩ | exact ⟨_, .int _, rfl⟩ | exact ⟨_, Dt.lit (by decide +kernel), rfl⟩ | exact ⟨_, by tm_at "carry", rfl⟩ | exact ⟨_, by tm_at "dt", rfl⟩
    exact k _ _ d (by tm_at "but") (by tm_at "bag") hd ha
local macro_rules | `(tactic| tm_at "sp") => `(tactic| ((with_reducible refine' i_odd ?b ?_); (case b => tm_at "bag"); intro _ _ _ _ _ _ _))
def sp_law_any_value (K : PySem.W.Frag) : Sp := fun vs H Q _ => ∃ (b l t : Addr) (z0 z1 z2 z3 : Str), vs = [.ref b, .ref t] ∧ Bag H b l ∧ SqL K H t [.str z0, .str z1, .str z2, .str z3] ∧ t ≠ b ∧ StrK z0 ∧ StrK z1 ∧ StrK z2 ∧ StrK z3 ∧ ∀ (H' : Hp) (v : V) (d : PyData), Stp b H H' → Bag H' b l → Dt K H' b v d → Val d → Q v H'
theorem i_any {H : Hp} {Q : VK} {E : XK} {b l t : Addr} {z0 z1 z2 z3 : Str} (hB : Bag H b l) (h : SqL K H t [.str z0, .str z1, .str z2, .str z3]) (n : t ≠ b) (k0 : StrK z0) (k1 : StrK z1) (k2 : StrK z2) (k3 : StrK z3) (q : ∀ (H' : Hp) (v : V) (d : PyData), Stp b H H' → Bag H' b l → Dt K H' b v d → Val d → Q v H') : sp_law_any_value K [.ref b, .ref t] H Q E := ⟨b, l, t, z0, z1, z2, z3, rfl, hB, h, n, k0, k1, k2, k3, q⟩
theorem ok_law_any_value (T : Txt K w mg Z) : FnOk P w K mg base CX0 4 Z.a_law_any_value Z.d_law_any_value ["_law_bag_here", "_law_words_here"] (sp_law_any_value K) := by
  have G_law_draw := ok_law_draw (P := P) (base := base) T
  have G_law_of := ok_law_of (P := P) (base := base) T
  have G_law_number := ok_law_number (P := P) (base := base) T
  refine T.F_law_any_value.ok sc_law_any_value (fun vs H Q E h => ?_) (fun cdv A outer s H vs Q E hr h => ?_)
  · obtain ⟨b, l, t, z0, z1, z2, z3, rfl, _⟩ := h
    rfl
  · obtain ⟨b, l, t, z0, z1, z2, z3, rfl, hB, ht, nt, k0, k1, k2, k3, k⟩ := h
    refine ⟨_, (pss_cons (ps_if (pt_cmpR op_eq (pe_call G_law_draw (hr.mono (by omega)) (by rfl) T.m_law_draw T.F_law_draw.kp T.b_law_draw .nil pass0 (pa_cons (pv 0) (pa_cons pe_int pa_nil))) pe_int (nomark _)) (pss_one (ps_ret (pe_call G_law_number (hr.mono (by omega)) (by rfl) T.m_law_number T.F_law_number.kp T.b_law_number .nil pass0 (pa_cons (pv 0) pa_nil)))) pss_nil)
      (pss_cons (ps_set (i := 2) sc_law_any_value.nd rfl (Or.inl rfl) (pe_call G_law_of (hr.mono (by omega)) (by rfl) T.m_law_of T.F_law_of.kp T.b_law_of .nil pass0 (pa_cons (pv 0) (pa_cons (pe_lst (pa_cons (pe_tup (pa_cons (pe_ix (ix_list : IxR _ (rIxL K)) (pv 1) pe_int (fun _ _ => rfl)) (pa_cons pe_str (pa_cons (pe_ix (ix_list : IxR _ (rIxL K)) (pv 1) pe_int (fun _ _ => rfl)) pa_nil)))) (pa_cons (pe_tup (pa_cons (pe_ix (ix_list : IxR _ (rIxL K)) (pv 1) pe_int (fun _ _ => rfl)) (pa_cons (pe_ix (ix_list : IxR _ (rIxL K)) (pv 1) pe_int (fun _ _ => rfl)) (pa_cons (pe_ix (ix_list : IxR _ (rIxL K)) (pv 1) pe_int (fun _ _ => rfl)) pa_nil)))) (pa_cons (pe_tup (pa_cons pe_str (pa_cons pe_str (pa_cons (pe_ix (ix_list : IxR _ (rIxL K)) (pv 1) pe_int (fun _ _ => rfl)) pa_nil)))) pa_nil)))) pa_nil))))
      (pss_one (ps_ret (pe_tup (pa_cons (pe_call G_law_draw (hr.mono (by omega)) (by rfl) T.m_law_draw T.F_law_draw.kp T.b_law_draw .nil pass0 (pa_cons (pv 0) (pa_cons pe_int pa_nil))) (pa_cons (pv 2) (pa_cons (pe_call G_law_of (hr.mono (by omega)) (by rfl) T.m_law_of T.F_law_of.kp T.b_law_of .nil pass0 (pa_cons (pv 0) (pa_cons (pe_lst (pa_cons pe_int (pa_cons pe_int (pa_cons pe_int (pa_cons pe_int (pa_cons (pe_call G_law_draw (hr.mono (by omega)) (by rfl) T.m_law_draw T.F_law_draw.kp T.b_law_draw .nil pass0 (pa_cons (pv 0) (pa_cons pe_int pa_nil))) pa_nil)))))) pa_nil))) pa_nil)))))))), ?_⟩
    rw [show L2.start N_law_any_value [V.ref b, V.ref t] = [some (V.ref b), some (V.ref t), none] from rfl]
    try dsimp only [cxOf, Cx.nox]
    tm_at "go"
    · exact k _ _ _ (by tm_at "but") (by tm_at "bag") (.int _) (.w (by assumption) (by assumption))
    · rename_i H5 v5 s5 B5 m5 H4 v4 s4 B4 w4 w4' H3 v3 s3 B3 w3 w3' p2 H2 n2 c2 e2 b2 b2' H1 v1 s1 B1 m1 p9 H9 n9 s9 e9 b9 b9'
      obtain ⟨a1, a2, a3, ho⟩ : ∃ (a1 a2 a3 : Str), Dt K H9 b v5 (.tuple [.str a1, .str a2, .str a3]) := by
        revert m5
        refine fun m5 => (show ∀ y ∈ _, ∃ (a1 a2 a3 : Str), Dt K H9 b y (.tuple [.str a1, .str a2, .str a3]) from ?_) _ m5
        tm_at "all"
        all_goals exact ⟨_, _, _, by tm_at "dt"⟩
      obtain ⟨x, rfl, x0, x1⟩ : ∃ x : Int, v1 = V.int x ∧ 0 ≤ x ∧ x ≤ 65535 := by
        revert m1
        refine fun m1 => (show ∀ y ∈ _, ∃ x : Int, y = V.int x ∧ 0 ≤ x ∧ x ≤ 65535 from ?_) _ m1
        tm_at "all"
        all_goals exact ⟨_, rfl, by omega, by omega⟩
      exact k _ _ _ (by tm_at "but") (by tm_at "bag") (Dt.tri_mk e9 b9 (.int _) ho) (.ad w4 x0 x1)
end
local macro_rules | `(tactic| tm_at "carry") => `(tactic| first | assumption | (refine' Dt.same (by assumption) ?z0; (case z0 => tm_at "carry")) | (refine' Dt.but (by assumption) ?z0; (case z0 => tm_at "carry")))
local macro_rules | `(tactic| tm_at "sp") => `(tactic| ((with_reducible refine' i_is_value ?h ?v ?_); (case h => tm_at "dt"); (case v => first | assumption | exact .w (by assumption) (by assumption) | exact .ad (by assumption) (by assumption) (by assumption))))
local macro_rules | `(tactic| tm_at "sp") => `(tactic| ((with_reducible refine' i_nest ?b ?_); (case b => first | exact Bag.at (by tm_at "bag") | exact ⟨_, by tm_at "hpO"⟩); intro _ _ _ _))
local macro_rules | `(tactic| tm_at "sp") => `(tactic| ((with_reducible refine' i_odd ?b ?_); (case b => tm_at "bag"); intro _ _ _ _ _ _ _))

/-! ### the law -/
theorem sum_comm {d e : PyData} (h : Val d) (g : Val e) : sumD e d = sumD d e := by
  cases h <;> cases g <;> simp [sumD, Int.add_comm]
theorem dep_sum {d e : PyData} (h : Val d) (g : Val e) : dep (sumD d e) ≤ 2 := by
  cases h <;> cases g <;> simp [sumD, dep, depA]
theorem dep_les {d e : PyData} (h : Val d) (g : Val e) : dep (lesD d e) ≤ 2 := by
  cases h <;> cases g
  · simp [lesD, dep]
  · simp [lesD, dep]
  · simp [lesD, dep, depA]
  · refine show dep (if _ then _ else _) ≤ 2 from ?_
    split <;> exact Nat.zero_le _
theorem dep4 {a b c d : PyData} (ha : dep a ≤ 2) (hb : dep b ≤ 2) (hc : dep c ≤ 2) (hd : dep d ≤ 2) : dep (.list [a, b, c, d]) ≤ 3 := by
  simp only [dep, depA]
  omega
theorem dtA_rep {K : PySem.W.Frag} {H : Hp} {b : Addr} : ∀ n : Nat, DtA K H b ((List.replicate n false).map V.bl) (List.replicate n (.bool false))
  | 0 => .nil
  | n + 1 => .cons (.bl _) (dtA_rep n)
theorem depA_rep : ∀ n : Nat, depA (List.replicate n (.bool false)) = 0
  | 0 => rfl
  | n + 1 => by
    rw [List.replicate_succ, depA, depA_rep n]
    rfl
theorem four_of {ts : List Str} (h : ts.length = 4) : ∃ a b c d, ts = [a, b, c, d] := by
  match ts, h with
  | [a, b, c, d], _ => exact ⟨a, b, c, d, rfl⟩
theorem Dt.strs3 {K : PySem.W.Frag} {H : Hp} {b : Addr} {v : V} {x y z : Str} (h : Dt K H b v (.tuple [.str x, .str y, .str z])) : ∃ a, v = .ref a ∧ a ≠ b ∧ SqT K H a [.str x, .str y, .str z] := by
  cases h with
  | tup h n l r =>
    cases r with
    | cons h1 r =>
      cases r with
      | cons h2 r =>
        cases r with
        | cons h3 r =>
          cases r
          cases h1
          cases h2
          cases h3
          exact ⟨_, rfl, n, h⟩
section
variable {P : Program} {w : World} {K : PySem.W.Frag} {mg : Str → Option Value} {base : Heap} {Z : Fs}
theorem i_bag {H : Hp} {Q : VK} {E : XK} {a : Addr} {ns : List Int} (h : SqL K H a (ns.map V.int)) (hl : ns.length ≤ 63) (q : ∀ (H' : Hp) (b l : Addr), Same H H' → Bag H' b l → Q (.ref b) H') : sp_law_bag K [.ref a] H Q E := ⟨a, ns, rfl, h, hl, fun H' b l s _ _ B => q H' b l s B⟩
theorem i_words {H : Hp} {Q : VK} {E : XK} {b l : Addr} {n : Nat} (hB : Bag H b l) (hn : n ≤ 1000) (q : ∀ (H' : Hp) (t : Addr) (ts : List Str), Stp b H H' → Bag H' b l → Wds K H' b t ts → ts.length = n → Q (.ref t) H') : sp_law_words K [.ref b, .int n] H Q E := ⟨b, l, n, rfl, hB, hn, q⟩
theorem i_words4 {H : Hp} {Q : VK} {E : XK} {b l : Addr} (hB : Bag H b l) (q : ∀ (H' : Hp) (t : Addr) (z0 z1 z2 z3 : Str), Stp b H H' → Bag H' b l → SqL K H' t [.str z0, .str z1, .str z2, .str z3] → t ≠ b → StrK z0 → StrK z1 → StrK z2 → StrK z3 → Q (.ref t) H') : sp_law_words K [.ref b, .int 4] H Q E := by
  refine i_words (n := 4) hB (by decide) fun H' t ts s B w e => ?_
  obtain ⟨z0, z1, z2, z3, rfl⟩ := four_of e
  exact q H' t z0 z1 z2 z3 s B w.1 w.2.1 (w.2.2 _ (by simp)) (w.2.2 _ (by simp)) (w.2.2 _ (by simp)) (w.2.2 _ (by simp))
local macro_rules | `(tactic| tm_at "sp") => `(tactic| first
  | ((with_reducible refine' i_bag ?h ?l ?_); (case h => tm_at "hpL"); (case l => assumption); intro _ _ _ _ _)
  | ((with_reducible refine' i_words4 ?b ?_); (case b => tm_at "bag"); intro _ _ _ _ _ _ _ _ _ _ _ _ _ _)
  | ((with_reducible refine' i_any ?b ?h ?n ?k0 ?k1 ?k2 ?k3 ?_); (case b => tm_at "bag"); (case h => tm_at "hpL"); (case n => tm_at "ne"); (case k0 => assumption); (case k1 => assumption); (case k2 => assumption); (case k3 => assumption); intro _ _ _ _ _ _ _)
  | ((with_reducible refine' i_two ?b ?h1 ?h2 ?v1 ?v2 ?_); (case b => exact Bag.at (by tm_at "bag")); (case h1 => tm_at "carry"); (case h2 => tm_at "carry"); (case v1 => assumption); (case v2 => assumption); intro _ _ _ _)
  | ((with_reducible refine' i_in_place ?h ?a ?_); (case h => tm_at "carry"); (case a => assumption); intro _ _))
def sp_law (K : PySem.W.Frag) : Sp := fun vs H Q _ => ∃ (a : Addr) (ns : List Int), vs = [.ref a] ∧ SqL K H a (ns.map V.int) ∧ ns.length ≤ 63 ∧ ∀ H', Q (.bl true) H'
theorem ok_law (T : Txt K w mg Z) : FnOk P w K mg base CX0 9 Z.a_law Z.d_law ["_law_script"] (sp_law K) := by
  have G_law_bag := ok_law_bag (P := P) (base := base) T
  have G_law_words := ok_law_words (P := P) (base := base) T
  have G_law_any_value := ok_law_any_value (P := P) (base := base) T
  have G_law_draw := ok_law_draw (P := P) (base := base) T
  have G_law_is_value := ok_law_is_value (P := P) (base := base) T
  have G_sum_of := ok_sum_of (P := P) (base := base) T
  have G_difference := ok_difference (P := P) (base := base) T
  have G_law_sum := ok_law_sum (P := P) (base := base) T
  have G_law_less := ok_law_less (P := P) (base := base) T
  have G_in_place := ok_in_place (P := P) (base := base) T
  have G_is_address := ok_is_address (P := P) (base := base) T
  have G_law_odd := ok_law_odd (P := P) (base := base) T
  have G_law_same := ok_law_same (P := P) (base := base) T 3
  refine T.F_law.ok sc_law (fun vs H Q E h => ?_) (fun cdv A outer s H vs Q E hr h => ?_)
  · obtain ⟨a, ns, rfl, _⟩ := h
    rfl
  · obtain ⟨a, ns, rfl, hS, hlen, k⟩ := h
    refine ⟨_, (pss_cons (ps_set (i := 1) sc_law.nd rfl (Or.inl rfl) (pe_call G_law_bag (hr.mono (by omega)) (by rfl) T.m_law_bag T.F_law_bag.kp T.b_law_bag .nil pass0 (pa_cons (pv 0) pa_nil)))
      (pss_cons (ps_set (i := 2) sc_law.nd rfl (Or.inl rfl) (pe_call G_law_words (hr.mono (by omega)) (by rfl) T.m_law_words T.F_law_words.kp T.b_law_words .nil pass0 (pa_cons (pv 1) (pa_cons pe_int pa_nil))))
      (pss_cons (ps_set (i := 3) sc_law.nd rfl (Or.inl rfl) (pe_tup (pa_cons (pe_ix (ix_list : IxR _ (rIxL K)) (pv 2) pe_int (fun _ _ => rfl)) (pa_cons pe_str (pa_cons (pe_ix (ix_list : IxR _ (rIxL K)) (pv 2) pe_int (fun _ _ => rfl)) pa_nil)))))
      (pss_cons (ps_for PassesOwn.never rfl (pi_range1 (by rfl) T.n_range (pa_cons pe_int pa_nil)) (pg_name (i := 4) sc_law.nd rfl (Or.inl rfl)) (pss_cons (ps_par (i := 5) (j := 6) (by rfl) sc_law.nd rfl rfl (by decide) rfl rfl (pa_cons (pe_call G_law_any_value (hr.mono (by omega)) (by rfl) T.m_law_any_value T.F_law_any_value.kp T.b_law_any_value .nil pass0 (pa_cons (pv 1) (pa_cons (pv 2) pa_nil))) (pa_cons (pe_call G_law_any_value (hr.mono (by omega)) (by rfl) T.m_law_any_value T.F_law_any_value.kp T.b_law_any_value .nil pass0 (pa_cons (pv 1) (pa_cons (pv 2) pa_nil))) pa_nil)) (by rfl))
      (C8.pss_cut (ps_if (PW.pt (pw_and (pt_cmpR op_eq (pe_call G_law_draw (hr.mono (by omega)) (by rfl) T.m_law_draw T.F_law_draw.kp T.b_law_draw .nil pass0 (pa_cons (pv 1) (pa_cons pe_int pa_nil))) pe_int (nomark _)) (pw_and1 (pt_val (pe_call G_law_is_value (hr.mono (by omega)) (by rfl) T.m_law_is_value T.F_law_is_value.kp T.b_law_is_value .nil pass0 (pa_cons (pv 5) pa_nil)))))) (pss_one (ps_set (i := 6) sc_law.nd rfl (Or.inl rfl) (pe_tup (pa_cons (pe_ix (ix_tup : IxR _ (rIxT K)) (pv 5) pe_int (fun _ _ => rfl)) (pa_cons (pe_ix (ix_tup : IxR _ (rIxT K)) (pv 5) pe_int (fun _ _ => rfl)) (pa_cons (pe_call G_law_draw (hr.mono (by omega)) (by rfl) T.m_law_draw T.F_law_draw.kp T.b_law_draw .nil pass0 (pa_cons (pv 1) (pa_cons pe_int pa_nil))) pa_nil)))))) pss_nil)
      (pss_cons (ps_set (i := 7) sc_law.nd rfl (Or.inl rfl) (pe_lst (pa_cons (pe_call G_sum_of (hr.mono (by omega)) (by rfl) T.m_sum_of T.F_sum_of.kp T.b_sum_of .nil pass0 (pa_cons (pv 5) (pa_cons (pv 6) pa_nil))) (pa_cons (pe_callN0 G_sum_of (hr.mono (by omega)) (by rfl) T.m_sum_of T.F_sum_of.kp T.k_sum_of_0_other_one pass0 (pk_cons (pv 5) (pk_cons (pv 6) pk_nil))) (pa_cons (pe_call G_difference (hr.mono (by omega)) (by rfl) T.m_difference T.F_difference.kp T.b_difference .nil pass0 (pa_cons (pv 5) (pa_cons (pv 6) pa_nil))) (pa_cons (pe_call G_difference (hr.mono (by omega)) (by rfl) T.m_difference T.F_difference.kp T.b_difference .nil pass0 (pa_cons (pv 6) (pa_cons (pv 5) pa_nil))) pa_nil))))))
      (C8.pss_cut (ps_if (pt_not (pt_val (pe_call G_law_same (hr.mono (by omega)) (by rfl) T.m_law_same T.F_law_same.kp T.b_law_same .nil pass0 (pa_cons (pv 7) (pa_cons (pe_lst (pa_cons (pe_call G_law_sum (hr.mono (by omega)) (by rfl) T.m_law_sum T.F_law_sum.kp T.b_law_sum .nil pass0 (pa_cons (pv 5) (pa_cons (pv 6) pa_nil))) (pa_cons (pe_call G_law_sum (hr.mono (by omega)) (by rfl) T.m_law_sum T.F_law_sum.kp T.b_law_sum .nil pass0 (pa_cons (pv 5) (pa_cons (pv 6) pa_nil))) (pa_cons (pe_call G_law_less (hr.mono (by omega)) (by rfl) T.m_law_less T.F_law_less.kp T.b_law_less .nil pass0 (pa_cons (pv 5) (pa_cons (pv 6) pa_nil))) (pa_cons (pe_call G_law_less (hr.mono (by omega)) (by rfl) T.m_law_less T.F_law_less.kp T.b_law_less .nil pass0 (pa_cons (pv 6) (pa_cons (pv 5) pa_nil))) pa_nil))))) pa_nil))))) (pss_one (ps_ret pe_bl)) pss_nil)
      (C8.pss_cut (ps_if (pt_not (pt_val (pe_call G_law_same (hr.mono (by omega)) (by rfl) T.m_law_same T.F_law_same.kp T.b_law_same .nil pass0 (pa_cons (pe_lst (pa_cons (pe_call G_is_address (hr.mono (by omega)) (by rfl) T.m_is_address T.F_is_address.kp T.b_is_address .nil pass0 (pa_cons (pv 5) pa_nil)) (pa_cons (pe_call G_is_address (hr.mono (by omega)) (by rfl) T.m_is_address T.F_is_address.kp T.b_is_address .nil pass0 (pa_cons (pv 6) pa_nil)) pa_nil))) (pa_cons (pe_lst (pa_cons (pe_call G_law_is_value (hr.mono (by omega)) (by rfl) T.m_law_is_value T.F_law_is_value.kp T.b_law_is_value .nil pass0 (pa_cons (pv 5) pa_nil)) (pa_cons (pe_call G_law_is_value (hr.mono (by omega)) (by rfl) T.m_law_is_value T.F_law_is_value.kp T.b_law_is_value .nil pass0 (pa_cons (pv 6) pa_nil)) pa_nil))) pa_nil))))) (pss_one (ps_ret pe_bl)) pss_nil)
      (pss_one (ps_if (PW.pt (pw_and (pt_val (pe_call G_law_is_value (hr.mono (by omega)) (by rfl) T.m_law_is_value T.F_law_is_value.kp T.b_law_is_value .nil pass0 (pa_cons (pv 5) pa_nil))) (pw_and1 (pt_cmpR op_ne (pe_ix (ix_tup : IxR _ (rIxT K)) (pe_ix (ix_tup : IxR _ (rIxT K)) (pv 5) pe_int (fun _ _ => rfl)) pe_int (fun _ _ => rfl)) pe_str (nomark _))))) (pss_cons (ps_set (i := 8) sc_law.nd rfl (Or.inl rfl) (pe_ix (ix_tup : IxR _ (rIxT K)) (pv 5) pe_int (fun _ _ => rfl)))
      (pss_one (ps_if (pt_not (pt_val (pe_call G_law_same (hr.mono (by omega)) (by rfl) T.m_law_same T.F_law_same.kp T.b_law_same .nil pass0 (pa_cons (pe_lst (pa_cons (pe_call G_in_place (hr.mono (by omega)) (by rfl) T.m_in_place T.F_in_place.kp T.b_in_place .nil pass0 (pa_cons (pv 5) (pa_cons (pv 8) pa_nil))) (pa_cons (pe_call G_in_place (hr.mono (by omega)) (by rfl) T.m_in_place T.F_in_place.kp T.b_in_place .nil pass0 (pa_cons (pv 5) (pa_cons (pe_op op_add (pv 8) pe_int) pa_nil))) (pa_cons (pe_callN0 G_in_place (hr.mono (by omega)) (by rfl) T.m_in_place T.F_in_place.kp T.k_in_place_0_cells_value pass0 (pk_cons pe_int (pk_cons (pv 5) pk_nil))) pa_nil)))) (pa_cons (pe_lst (pa_cons pe_bl (pa_cons pe_bl (pa_cons pe_bl pa_nil)))) pa_nil))))) (pss_one (ps_ret pe_bl)) pss_nil))) (pss_one (ps_if (PW.pt (pw_and (pt_val (pe_call G_law_is_value (hr.mono (by omega)) (by rfl) T.m_law_is_value T.F_law_is_value.kp T.b_law_is_value .nil pass0 (pa_cons (pv 5) pa_nil))) (pw_and1 (pt_not (pt_val (pe_call G_law_same (hr.mono (by omega)) (by rfl) T.m_law_same T.F_law_same.kp T.b_law_same .nil pass0 (pa_cons (pe_lst (pa_cons (pe_call G_in_place (hr.mono (by omega)) (by rfl) T.m_in_place T.F_in_place.kp T.b_in_place .nil pass0 (pa_cons (pv 5) (pa_cons pe_int pa_nil))) (pa_cons (pe_callN0 G_in_place (hr.mono (by omega)) (by rfl) T.m_in_place T.F_in_place.kp T.k_in_place_0_cells_value pass0 (pk_cons pe_int (pk_cons (pv 5) pk_nil))) pa_nil))) (pa_cons (pe_lst (pa_cons (pe_cmpR op_eq (pe_ix (ix_tup : IxR _ (rIxT K)) (pv 5) pe_int (fun _ _ => rfl)) pe_int (nomark _)) (pa_cons (pe_cmpR op_eq (pe_ix (ix_tup : IxR _ (rIxT K)) (pv 5) pe_int (fun _ _ => rfl)) pe_int (nomark _)) pa_nil))) pa_nil)))))))) (pss_one (ps_ret pe_bl)) pss_nil))))))))))
      (pss_cons (ps_set (i := 9) sc_law.nd rfl (Or.inl rfl) (pe_lst (pa_cons pe_non (pa_cons pe_int (pa_cons pe_int (pa_cons pe_str (pa_cons (pe_lst (pa_cons pe_int (pa_cons (pv 3) (pa_cons pe_int pa_nil)))) (pa_cons (pe_tup (pa_cons pe_int (pa_cons (pv 3) pa_nil))) (pa_cons (pe_tup (pa_cons pe_int (pa_cons (pv 3) (pa_cons pe_int (pa_cons pe_int pa_nil))))) (pa_cons (pe_tup (pa_cons (pe_un un_neg pe_int) (pa_cons (pv 3) (pa_cons pe_int pa_nil)))) (pa_cons (pe_tup (pa_cons pe_bl (pa_cons (pv 3) (pa_cons pe_int pa_nil)))) (pa_cons (pe_tup (pa_cons pe_int (pa_cons (pv 3) (pa_cons pe_int pa_nil)))) (pa_cons (pe_tup (pa_cons pe_int (pa_cons (pv 3) (pa_cons (pe_un un_neg pe_int) pa_nil)))) (pa_cons (pe_tup (pa_cons pe_int (pa_cons (pv 3) (pa_cons pe_bl pa_nil)))) (pa_cons (pe_tup (pa_cons pe_int (pa_cons (pe_callTy Go.c_list (by rfl) T.n_list boot_list (pa_cons (pv 3) pa_nil)) (pa_cons pe_int pa_nil)))) (pa_cons (pe_tup (pa_cons pe_int (pa_cons (pe_slice (sl_tup : SlR _ (rSlT K)) (pv 3) po_none (po_some pe_int)) (pa_cons pe_int pa_nil)))) (pa_cons (pe_tup (pa_cons pe_int (pa_cons (pe_tup (pa_cons (pe_ix (ix_list : IxR _ (rIxL K)) (pv 2) pe_int (fun _ _ => rfl)) (pa_cons pe_non (pa_cons (pe_ix (ix_list : IxR _ (rIxL K)) (pv 2) pe_int (fun _ _ => rfl)) pa_nil)))) (pa_cons pe_int pa_nil)))) (pa_cons (pe_tup (pa_cons pe_str (pa_cons (pv 3) (pa_cons pe_int pa_nil)))) (pa_cons (pe_tup (pa_cons pe_non (pa_cons (pv 3) (pa_cons pe_int pa_nil)))) (pa_cons (pe_call G_law_odd (hr.mono (by omega)) (by rfl) T.m_law_odd T.F_law_odd.kp T.b_law_odd .nil pass0 (pa_cons (pv 1) pa_nil)) pa_nil))))))))))))))))))))
      (pss_one (ps_ret (pe_and (pe_call G_law_same (hr.mono (by omega)) (by rfl) T.m_law_same T.F_law_same.kp T.b_law_same .nil pass0 (pa_cons (pe_lc (own := [("_law_value", 10)]) (g := gName 10) (tt := tYes) rfl sc_law.nd (pi_list (pv 9)) (blkOk_by (N := N_law) (sc := defScope s_law) (by decide +kernel)) (fun _ _ _ _ _ => pg_name (i := 10) sc_law.nd rfl (Or.inl rfl)) (fun _ _ _ _ _ => pts_nil) (fun _ _ _ _ _ => (pe_call G_is_address (hr.mono (by omega)) (by rfl) T.m_is_address T.F_is_address.kp T.b_is_address .nil pass0 (pa_cons (pv 10) pa_nil)))) (pa_cons (pe_op op_rep (pe_lst (pa_cons pe_bl pa_nil)) pe_int) pa_nil))) (pe_one (pe_call G_is_address (hr.mono (by omega)) (by rfl) T.m_is_address T.F_is_address.kp T.b_is_address .nil pass0 (pa_cons (pe_tup (pa_cons pe_int (pa_cons (pv 3) (pa_cons pe_int pa_nil)))) pa_nil))))))))))), ?_⟩
    rw [show L2.start N_law [V.ref a] = [some (V.ref a), none, none, none, none, none, none, none, none, none, none] from rfl]
    try dsimp only [cxOf, Cx.nox]
    tm_at "go"
    rename_i H1 b l s1 B1 H2 t z0 z1 z2 z3 s2 B2 ht nt k0 k1 k2 k3 po H3 n3 s3 eo nob nol
    refine Go.for_w walk_range (fun i σ H' => ∃ y4 y5 y6 y7 y8 y9 y10, σ = [some (.ref a), some (.ref b), some (.ref t), some (.ref po), y4, y5, y6, y7, y8, y9, y10] ∧ Stp b H3 H' ∧ Bag H' b l) ⟨_, _, _, _, _, _, _, rfl, Stp.refl, by tm_at "bag"⟩ (fun _ _ _ _ _ => trivial) ?_ ?_
    · rintro i v σ H4 H5 hi ⟨y4, y5, y6, y7, y8, y9, y10, rfl, s4, B4⟩ ⟨rfl, rfl⟩
      tm_at "go"
      rename_i H6 x d s6 B6 hx vx H7 y e s7 B7 hy vy
      refine Go.cut (fun σ' H' => ∃ (v : V) (e : PyData), σ' = [some (.ref a), some (.ref b), some (.ref t), some (.ref po), some (.int (0 + (i : Int))), some x, some v, y7, y8, y9, y10] ∧ Stp b H5 H' ∧ Bag H' b l ∧ Dt K H' b x d ∧ Dt K H' b v e ∧ Val e) ?_ ?_
      · tm_at "go"
        · rename_i H8 n s8 B8 n0 n1 z3 ad
          cases vx with
          | w a0 a1 => cases ad
          | @ad j u s1 s2 s3 ai a0 a1 =>
            obtain ⟨p1, vi, vo, rfl, nb1, e1, hi, ho⟩ := hx.tri
            tm_at "go"
            rename_i H9 m s9 B9 m0 m1 pq H10 n10 s10 e10 nb2 nl2
            exact ⟨_, _, rfl, by tm_at "but", by tm_at "bag", by tm_at "carry", Dt.tri_mk e10 nb2 (by tm_at "carry") (by tm_at "carry"), .ad ai m0 (by omega)⟩
        · exact ⟨_, _, rfl, by tm_at "but", by tm_at "bag", by tm_at "carry", by tm_at "carry", vy⟩
        · exact ⟨_, _, rfl, by tm_at "but", by tm_at "bag", by tm_at "carry", by tm_at "carry", vy⟩
      · rintro σ1 H8 ⟨v, e, rfl, s8, B8, hx, hv, ve⟩
        tm_at "go"
        rename_i G1 u1 t1 f1 G2 u2 t2 f2 G3 u3 t3 f3 G4 u4 t4 f4 pf G5 n5 t5 e5 nfb nfl
        refine Go.cut (fun σ' H' => ∃ (y7 : Option V), σ' = [some (.ref a), some (.ref b), some (.ref t), some (.ref po), some (.int (0 + (i : Int))), some x, some v, y7, y8, y9, y10] ∧ Stp b H8 H' ∧ Bag H' b l) ?_ ?_
        · tm_at "go"
          rename_i G6 w1 t6 g1 G7 w2 t7 g2 G8 w3 t8 g3 G9 w4 t9 g4 pd G10 n10 t10 e10 ndb ndl
          rw [sum_comm vx ve] at f2
          refine i_same (b := b) (d := .list [sumD d e, sumD d e, lesD d e, lesD e d]) (.lst (by tm_at "hpL") nfb (Nat.le_of_ble_eq_true rfl) (.cons (by tm_at "carry") (.cons (by tm_at "carry") (.cons (by tm_at "carry") (.cons (by tm_at "carry") .nil))))) (.lst (by tm_at "hpL") ndb (Nat.le_of_ble_eq_true rfl) (.cons (by tm_at "carry") (.cons (by tm_at "carry") (.cons (by tm_at "carry") (.cons (by tm_at "carry") .nil))))) (dep4 (dep_sum vx ve) (dep_sum vx ve) (dep_les vx ve) (dep_les ve vx)) fun G11 t11 => ?_
          tm_at "go"
          exact ⟨_, rfl, by tm_at "but", by tm_at "bag"⟩
        · rintro σ2 H9 ⟨y7, rfl, s9, B9⟩
          refine Go.cut (fun σ' H' => σ' = [some (.ref a), some (.ref b), some (.ref t), some (.ref po), some (.int (0 + (i : Int))), some x, some v, y7, y8, y9, y10] ∧ Stp b H8 H' ∧ Bag H' b l) ?_ ?_
          · tm_at "go"
            rename_i G1 t1 G2 t2 pf G3 n3 t3 e3 nfb nfl pd G4 n4 t4 e4 ndb ndl
            refine i_same (b := b) (d := .list [.bool (adrD d), .bool (adrD e)]) (.lst (by tm_at "hpL") nfb (Nat.le_of_ble_eq_true rfl) (.cons (.bl _) (.cons (.bl _) .nil))) (.lst (by tm_at "hpL") ndb (Nat.le_of_ble_eq_true rfl) (.cons (.bl _) (.cons (.bl _) .nil))) (by simp [dep, depA]) fun G11 t11 => ?_
            tm_at "go"
            exact ⟨by tm_at "but", by tm_at "bag"⟩
          · rintro σ2 H10 ⟨rfl, s10, B10⟩
            cases vx with
            | w a0 a1 =>
              obtain rfl := hx.word
              tm_at "go"
              exact ⟨_, _, _, _, _, _, _, rfl, by tm_at "but", B10⟩
            | @ad j c a1 a2 a3 ai c0 c1 =>
              have q1 := val_a (a := a1) (b := a2) (c := a3) ai c0 c1
              have vx : Val (.tuple [.int j, .tuple [.str a1, .str a2, .str a3], .int c]) := .ad ai c0 c1
              obtain ⟨p1, vi, vo, rfl, nb1, e1, hi, ho⟩ := hx.tri
              obtain ⟨p2, rfl, nb2, e2⟩ := ho.strs3
              tm_at "go"
              · rename_i z0 G1 t1 G2 t2 pf G3 n3 t3 e3 nfb nfl pd G4 n4 t4 e4 ndb ndl
                rw [show decide (c = 0) = decide (c < 1) by rw [Bool.eq_iff_iff]; simp; omega] at e4
                refine i_same (b := b) (d := .list [.bool (decide (c < 1)), .bool (decide (c < 1))]) (.lst (by tm_at "hpL") nfb (Nat.le_of_ble_eq_true rfl) (.cons (.bl _) (.cons (.bl _) .nil))) (.lst (by tm_at "hpL") ndb (Nat.le_of_ble_eq_true rfl) (.cons (.bl _) (.cons (.bl _) .nil))) (by simp [dep, depA]) fun G11 t11 => ?_
                tm_at "go"
                exact ⟨_, _, _, _, _, _, _, rfl, by tm_at "but", by tm_at "bag"⟩
              · rename_i z0 G0 t0 G1 t1 G2 t2 pf G3 n3 t3 e3 nfb nfl pd G4 n4 t4 e4 ndb ndl
                rw [decide_eq_false (by omega : ¬ c < c), decide_eq_true (by omega : c < c + 1), decide_eq_false (by omega : ¬ c < 0)] at e3
                refine i_same (b := b) (d := .list [.bool false, .bool true, .bool false]) (.lst (by tm_at "hpL") nfb (Nat.le_of_ble_eq_true rfl) (.cons (.bl _) (.cons (.bl _) (.cons (.bl _) .nil)))) (.lst (by tm_at "hpL") ndb (Nat.le_of_ble_eq_true rfl) (.cons (.bl _) (.cons (.bl _) (.cons (.bl _) .nil)))) (by simp [dep, depA]) fun G11 t11 => ?_
                tm_at "go"
                exact ⟨_, _, _, _, _, _, _, rfl, by tm_at "but", by tm_at "bag"⟩
    · rintro σ H4 ⟨y4, y5, y6, y7, y8, y9, y10, rfl, s4, B4⟩
      tm_at "go"
      rename_i pl HL nL sL eL nlb nll
      obtain ⟨xs, ex, lx, hall⟩ : ∃ xs, HL pl = some (.lst xs) ∧ xs.length = 18 ∧ ∀ y ∈ xs, Odd K HL b y := by
        refine ⟨_, eL, rfl, ?_⟩
        tm_at "all"
        all_goals first | exact ⟨_, .non, rfl⟩ | exact ⟨_, .bl _, rfl⟩ | exact ⟨_, .int _, rfl⟩ | exact ⟨_, Dt.lit (by decide +kernel), rfl⟩ | exact ⟨_, by tm_at "carry", by assumption⟩ | exact ⟨_, by tm_at "dt", rfl⟩
      have eoL : SqT K HL po [.str z0, .str (Str.ofString ""), .str z1] := by tm_at "hpT"
      refine Go.lc_w (walk_list (K := K) (xs := xs)) (fun D i H' => Same HL H' ∧ HL D = none ∧ i ≤ 100000 ∧ H' D = some (.lst ((List.replicate i false).map V.bl))) (by tm_at "wipe") ?_ ?_ ?_ ?_
      · intro D H2 n0 s2 e2
        exact ⟨s2, n0, by omega, e2⟩
      · intro D i H2 hi ⟨s2, _, _, e2⟩
        exact SqL.of (s2 _ _ ex)
      · rintro D i v H2 H3 hi ⟨s2, nD, li, e2⟩ ⟨rfl, hv⟩
        obtain ⟨d, hd, ha⟩ := hall v (List.mem_of_getElem? hv)
        tm_at "go"
        rename_i H5 s5
        refine Go.lcEnd (s5 _ _ e2) (Go.lt_line (by rw [List.length_map, List.length_replicate]; exact li)) fun H6 s6 e6 => ?_
        refine ⟨by tm_at "same", nD, by omega, ?_⟩
        rw [e6, ha, List.replicate_succ', List.map_append]
        rfl
      · rintro D H2 ⟨s2, nD, li, e2⟩
        rw [lx] at e2
        tm_at "go"
        rename_i p1 G1 m1 t1 f1 c1 c1' p2 G2 m2 t2 f2 c2 c2'
        have nDb : D ≠ b := Bag.ne (by tm_at "bag") nD
        refine i_same (b := b) (d := .list (List.replicate 18 (.bool false))) (.lst (by tm_at "hpL") nDb (Nat.le_of_ble_eq_true rfl) (dtA_rep 18)) (.lst (xs := (List.replicate 18 false).map V.bl) (SqL.of f2) c2 (Nat.le_of_ble_eq_true rfl) (dtA_rep 18)) (by simp only [dep, depA_rep]; omega) fun G3 t3 => ?_
        tm_at "go"
        exact Go.bE (c := true) rfl (k _)
end
local macro_rules | `(tactic| tm_at "sp") => `(tactic| first
  | ((with_reducible refine' i_bag ?h ?l ?_); (case h => tm_at "hpL"); (case l => assumption); intro _ _ _ _ _)
  | ((with_reducible refine' i_words4 ?b ?_); (case b => tm_at "bag"); intro _ _ _ _ _ _ _ _ _ _ _ _ _ _)
  | ((with_reducible refine' i_any ?b ?h ?n ?k0 ?k1 ?k2 ?k3 ?_); (case b => tm_at "bag"); (case h => tm_at "hpL"); (case n => tm_at "ne"); (case k0 => assumption); (case k1 => assumption); (case k2 => assumption); (case k3 => assumption); intro _ _ _ _ _ _ _)
  | ((with_reducible refine' i_two ?b ?h1 ?h2 ?v1 ?v2 ?_); (case b => exact Bag.at (by tm_at "bag")); (case h1 => tm_at "carry"); (case h2 => tm_at "carry"); (case v1 => assumption); (case v2 => assumption); intro _ _ _ _)
  | ((with_reducible refine' i_in_place ?h ?a ?_); (case h => tm_at "carry"); (case a => assumption); intro _ _))

/-! ### what the top has written, the head -/
theorem all_mk {l : PySem.W.OpenLaw} {w : World} {K : PySem.W.Frag} {h : Heap} {mg : Str → Option Value} {fa : Addr} (X : K.In h) (G : h.Ns mainGlobals mg) (hfa : mg "law" = some (.ref fa))
    {f_is_word f_is_number f_is_strings f_wrapped f_is_address f_sum_of f_difference f_in_place f_is_count f_moved f_law_draw f_law_of f_law_number f_law_bag f_law_words f_law_is_value f_law_same f_law_sum f_law_less f_law_nest f_law_odd f_law_any_value f_law  : Addr}
    {od_is_word an_is_word od_is_number an_is_number od_is_strings an_is_strings od_wrapped an_wrapped od_is_address an_is_address od_sum_of an_sum_of od_difference an_difference od_in_place an_in_place od_is_count an_is_count od_moved an_moved od_law_draw an_law_draw od_law_of an_law_of od_law_number an_law_number od_law_bag an_law_bag od_law_words an_law_words od_law_is_value an_law_is_value od_law_same an_law_same od_law_sum an_law_sum od_law_less an_law_less od_law_nest an_law_nest od_law_odd an_law_odd od_law_any_value an_law_any_value od_law an_law : Option Addr} {sl_is_word sl_is_number sl_is_strings sl_wrapped sl_is_address sl_sum_of sl_difference sl_in_place sl_is_count sl_moved sl_law_draw sl_law_of sl_law_number sl_law_bag sl_law_words sl_law_is_value sl_law_same sl_law_sum sl_law_less sl_law_nest sl_law_odd sl_law_any_value sl_law : Array (Option Value)} {oc_is_word kV_is_word dc_is_word pm_is_word cd_is_word ct_is_word oc_is_number kV_is_number dc_is_number pm_is_number cd_is_number ct_is_number oc_is_strings kV_is_strings dc_is_strings pm_is_strings cd_is_strings ct_is_strings oc_wrapped kV_wrapped dc_wrapped pm_wrapped cd_wrapped ct_wrapped oc_is_address kV_is_address dc_is_address pm_is_address cd_is_address ct_is_address oc_sum_of kV_sum_of dc_sum_of pm_sum_of cd_sum_of ct_sum_of oc_difference kV_difference dc_difference pm_difference cd_difference ct_difference oc_in_place kV_in_place dc_in_place pm_in_place cd_in_place ct_in_place oc_is_count kV_is_count dc_is_count pm_is_count cd_is_count ct_is_count oc_moved kV_moved dc_moved pm_moved cd_moved ct_moved oc_law_draw kV_law_draw dc_law_draw pm_law_draw cd_law_draw ct_law_draw oc_law_of kV_law_of dc_law_of pm_law_of cd_law_of ct_law_of oc_law_number kV_law_number dc_law_number pm_law_number cd_law_number ct_law_number oc_law_bag kV_law_bag dc_law_bag pm_law_bag cd_law_bag ct_law_bag oc_law_words kV_law_words dc_law_words pm_law_words cd_law_words ct_law_words oc_law_is_value kV_law_is_value dc_law_is_value pm_law_is_value cd_law_is_value ct_law_is_value oc_law_same kV_law_same dc_law_same pm_law_same cd_law_same ct_law_same oc_law_sum kV_law_sum dc_law_sum pm_law_sum cd_law_sum ct_law_sum oc_law_less kV_law_less dc_law_less pm_law_less cd_law_less ct_law_less oc_law_nest kV_law_nest dc_law_nest pm_law_nest cd_law_nest ct_law_nest oc_law_odd kV_law_odd dc_law_odd pm_law_odd cd_law_odd ct_law_odd oc_law_any_value kV_law_any_value dc_law_any_value pm_law_any_value cd_law_any_value ct_law_any_value oc_law kV_law dc_law pm_law cd_law ct_law : Value}
    (a_is_word : PySem.W.nsIn K mainGlobals "is_word" = some (some (.ref f_is_word))) (l_is_word : K.lookup f_is_word = some ⟨oc_is_word, od_is_word, .func (PySem.W.fnOf "is_word" "is_word" (defArgs s_is_word) (defBody s_is_word) (defScope s_is_word) .none kV_is_word dc_is_word pm_is_word an_is_word cd_is_word ct_is_word), sl_is_word⟩) (c_is_word : PySem.W.codeIn K cd_is_word "is_word" = true) (k_is_word : PySem.W.keepIn K (.ref f_is_word) = true)
    (a_is_number : PySem.W.nsIn K mainGlobals "is_number" = some (some (.ref f_is_number))) (l_is_number : K.lookup f_is_number = some ⟨oc_is_number, od_is_number, .func (PySem.W.fnOf "is_number" "is_number" (defArgs s_is_number) (defBody s_is_number) (defScope s_is_number) .none kV_is_number dc_is_number pm_is_number an_is_number cd_is_number ct_is_number), sl_is_number⟩) (c_is_number : PySem.W.codeIn K cd_is_number "is_number" = true) (k_is_number : PySem.W.keepIn K (.ref f_is_number) = true)
    (a_is_strings : PySem.W.nsIn K mainGlobals "is_strings" = some (some (.ref f_is_strings))) (l_is_strings : K.lookup f_is_strings = some ⟨oc_is_strings, od_is_strings, .func (PySem.W.fnOf "is_strings" "is_strings" (defArgs s_is_strings) (defBody s_is_strings) (defScope s_is_strings) .none kV_is_strings dc_is_strings pm_is_strings an_is_strings cd_is_strings ct_is_strings), sl_is_strings⟩) (c_is_strings : PySem.W.codeIn K cd_is_strings "is_strings" = true) (k_is_strings : PySem.W.keepIn K (.ref f_is_strings) = true)
    (a_wrapped : PySem.W.nsIn K mainGlobals "wrapped" = some (some (.ref f_wrapped))) (l_wrapped : K.lookup f_wrapped = some ⟨oc_wrapped, od_wrapped, .func (PySem.W.fnOf "wrapped" "wrapped" (defArgs s_wrapped) (defBody s_wrapped) (defScope s_wrapped) .none kV_wrapped dc_wrapped pm_wrapped an_wrapped cd_wrapped ct_wrapped), sl_wrapped⟩) (c_wrapped : PySem.W.codeIn K cd_wrapped "wrapped" = true) (k_wrapped : PySem.W.keepIn K (.ref f_wrapped) = true)
    (a_is_address : PySem.W.nsIn K mainGlobals "is_address" = some (some (.ref f_is_address))) (l_is_address : K.lookup f_is_address = some ⟨oc_is_address, od_is_address, .func (PySem.W.fnOf "is_address" "is_address" (defArgs s_is_address) (defBody s_is_address) (defScope s_is_address) .none kV_is_address dc_is_address pm_is_address an_is_address cd_is_address ct_is_address), sl_is_address⟩) (c_is_address : PySem.W.codeIn K cd_is_address "is_address" = true) (k_is_address : PySem.W.keepIn K (.ref f_is_address) = true)
    (a_sum_of : PySem.W.nsIn K mainGlobals "sum_of" = some (some (.ref f_sum_of))) (l_sum_of : K.lookup f_sum_of = some ⟨oc_sum_of, od_sum_of, .func (PySem.W.fnOf "sum_of" "sum_of" (defArgs s_sum_of) (defBody s_sum_of) (defScope s_sum_of) .none kV_sum_of dc_sum_of pm_sum_of an_sum_of cd_sum_of ct_sum_of), sl_sum_of⟩) (c_sum_of : PySem.W.codeIn K cd_sum_of "sum_of" = true) (k_sum_of : PySem.W.keepIn K (.ref f_sum_of) = true)
    (a_difference : PySem.W.nsIn K mainGlobals "difference" = some (some (.ref f_difference))) (l_difference : K.lookup f_difference = some ⟨oc_difference, od_difference, .func (PySem.W.fnOf "difference" "difference" (defArgs s_difference) (defBody s_difference) (defScope s_difference) .none kV_difference dc_difference pm_difference an_difference cd_difference ct_difference), sl_difference⟩) (c_difference : PySem.W.codeIn K cd_difference "difference" = true) (k_difference : PySem.W.keepIn K (.ref f_difference) = true)
    (a_in_place : PySem.W.nsIn K mainGlobals "in_place" = some (some (.ref f_in_place))) (l_in_place : K.lookup f_in_place = some ⟨oc_in_place, od_in_place, .func (PySem.W.fnOf "in_place" "in_place" (defArgs s_in_place) (defBody s_in_place) (defScope s_in_place) .none kV_in_place dc_in_place pm_in_place an_in_place cd_in_place ct_in_place), sl_in_place⟩) (c_in_place : PySem.W.codeIn K cd_in_place "in_place" = true) (k_in_place : PySem.W.keepIn K (.ref f_in_place) = true)
    (a_is_count : PySem.W.nsIn K mainGlobals "_is_count" = some (some (.ref f_is_count))) (l_is_count : K.lookup f_is_count = some ⟨oc_is_count, od_is_count, .func (PySem.W.fnOf "_is_count" "_is_count" (defArgs s_is_count) (defBody s_is_count) (defScope s_is_count) .none kV_is_count dc_is_count pm_is_count an_is_count cd_is_count ct_is_count), sl_is_count⟩) (c_is_count : PySem.W.codeIn K cd_is_count "_is_count" = true) (k_is_count : PySem.W.keepIn K (.ref f_is_count) = true)
    (a_moved : PySem.W.nsIn K mainGlobals "_moved" = some (some (.ref f_moved))) (l_moved : K.lookup f_moved = some ⟨oc_moved, od_moved, .func (PySem.W.fnOf "_moved" "_moved" (defArgs s_moved) (defBody s_moved) (defScope s_moved) .none kV_moved dc_moved pm_moved an_moved cd_moved ct_moved), sl_moved⟩) (c_moved : PySem.W.codeIn K cd_moved "_moved" = true) (k_moved : PySem.W.keepIn K (.ref f_moved) = true)
    (a_law_draw : PySem.W.nsIn K mainGlobals "_law_draw" = some (some (.ref f_law_draw))) (l_law_draw : K.lookup f_law_draw = some ⟨oc_law_draw, od_law_draw, .func (PySem.W.fnOf "_law_draw" "_law_draw" (defArgs s_law_draw) (defBody s_law_draw) (defScope s_law_draw) .none kV_law_draw dc_law_draw pm_law_draw an_law_draw cd_law_draw ct_law_draw), sl_law_draw⟩) (c_law_draw : PySem.W.codeIn K cd_law_draw "_law_draw" = true) (k_law_draw : PySem.W.keepIn K (.ref f_law_draw) = true)
    (a_law_of : PySem.W.nsIn K mainGlobals "_law_of" = some (some (.ref f_law_of))) (l_law_of : K.lookup f_law_of = some ⟨oc_law_of, od_law_of, .func (PySem.W.fnOf "_law_of" "_law_of" (defArgs s_law_of) (defBody s_law_of) (defScope s_law_of) .none kV_law_of dc_law_of pm_law_of an_law_of cd_law_of ct_law_of), sl_law_of⟩) (c_law_of : PySem.W.codeIn K cd_law_of "_law_of" = true) (k_law_of : PySem.W.keepIn K (.ref f_law_of) = true)
    (a_law_number : PySem.W.nsIn K mainGlobals "_law_number" = some (some (.ref f_law_number))) (l_law_number : K.lookup f_law_number = some ⟨oc_law_number, od_law_number, .func (PySem.W.fnOf "_law_number" "_law_number" (defArgs s_law_number) (defBody s_law_number) (defScope s_law_number) .none kV_law_number dc_law_number pm_law_number an_law_number cd_law_number ct_law_number), sl_law_number⟩) (c_law_number : PySem.W.codeIn K cd_law_number "_law_number" = true) (k_law_number : PySem.W.keepIn K (.ref f_law_number) = true)
    (a_law_bag : PySem.W.nsIn K mainGlobals "_law_bag" = some (some (.ref f_law_bag))) (l_law_bag : K.lookup f_law_bag = some ⟨oc_law_bag, od_law_bag, .func (PySem.W.fnOf "_law_bag" "_law_bag" (defArgs s_law_bag) (defBody s_law_bag) (defScope s_law_bag) .none kV_law_bag dc_law_bag pm_law_bag an_law_bag cd_law_bag ct_law_bag), sl_law_bag⟩) (c_law_bag : PySem.W.codeIn K cd_law_bag "_law_bag" = true) (k_law_bag : PySem.W.keepIn K (.ref f_law_bag) = true)
    (a_law_words : PySem.W.nsIn K mainGlobals "_law_words" = some (some (.ref f_law_words))) (l_law_words : K.lookup f_law_words = some ⟨oc_law_words, od_law_words, .func (PySem.W.fnOf "_law_words" "_law_words" (defArgs s_law_words) (defBody s_law_words) (defScope s_law_words) .none kV_law_words dc_law_words pm_law_words an_law_words cd_law_words ct_law_words), sl_law_words⟩) (c_law_words : PySem.W.codeIn K cd_law_words "_law_words" = true) (k_law_words : PySem.W.keepIn K (.ref f_law_words) = true)
    (a_law_is_value : PySem.W.nsIn K mainGlobals "_law_is_value" = some (some (.ref f_law_is_value))) (l_law_is_value : K.lookup f_law_is_value = some ⟨oc_law_is_value, od_law_is_value, .func (PySem.W.fnOf "_law_is_value" "_law_is_value" (defArgs s_law_is_value) (defBody s_law_is_value) (defScope s_law_is_value) .none kV_law_is_value dc_law_is_value pm_law_is_value an_law_is_value cd_law_is_value ct_law_is_value), sl_law_is_value⟩) (c_law_is_value : PySem.W.codeIn K cd_law_is_value "_law_is_value" = true) (k_law_is_value : PySem.W.keepIn K (.ref f_law_is_value) = true)
    (a_law_same : PySem.W.nsIn K mainGlobals "_law_same" = some (some (.ref f_law_same))) (l_law_same : K.lookup f_law_same = some ⟨oc_law_same, od_law_same, .func (PySem.W.fnOf "_law_same" "_law_same" (defArgs s_law_same) (defBody s_law_same) (defScope s_law_same) .none kV_law_same dc_law_same pm_law_same an_law_same cd_law_same ct_law_same), sl_law_same⟩) (c_law_same : PySem.W.codeIn K cd_law_same "_law_same" = true) (k_law_same : PySem.W.keepIn K (.ref f_law_same) = true)
    (a_law_sum : PySem.W.nsIn K mainGlobals "_law_sum" = some (some (.ref f_law_sum))) (l_law_sum : K.lookup f_law_sum = some ⟨oc_law_sum, od_law_sum, .func (PySem.W.fnOf "_law_sum" "_law_sum" (defArgs s_law_sum) (defBody s_law_sum) (defScope s_law_sum) .none kV_law_sum dc_law_sum pm_law_sum an_law_sum cd_law_sum ct_law_sum), sl_law_sum⟩) (c_law_sum : PySem.W.codeIn K cd_law_sum "_law_sum" = true) (k_law_sum : PySem.W.keepIn K (.ref f_law_sum) = true)
    (a_law_less : PySem.W.nsIn K mainGlobals "_law_less" = some (some (.ref f_law_less))) (l_law_less : K.lookup f_law_less = some ⟨oc_law_less, od_law_less, .func (PySem.W.fnOf "_law_less" "_law_less" (defArgs s_law_less) (defBody s_law_less) (defScope s_law_less) .none kV_law_less dc_law_less pm_law_less an_law_less cd_law_less ct_law_less), sl_law_less⟩) (c_law_less : PySem.W.codeIn K cd_law_less "_law_less" = true) (k_law_less : PySem.W.keepIn K (.ref f_law_less) = true)
    (a_law_nest : PySem.W.nsIn K mainGlobals "_law_nest" = some (some (.ref f_law_nest))) (l_law_nest : K.lookup f_law_nest = some ⟨oc_law_nest, od_law_nest, .func (PySem.W.fnOf "_law_nest" "_law_nest" (defArgs s_law_nest) (defBody s_law_nest) (defScope s_law_nest) .none kV_law_nest dc_law_nest pm_law_nest an_law_nest cd_law_nest ct_law_nest), sl_law_nest⟩) (c_law_nest : PySem.W.codeIn K cd_law_nest "_law_nest" = true) (k_law_nest : PySem.W.keepIn K (.ref f_law_nest) = true)
    (a_law_odd : PySem.W.nsIn K mainGlobals "_law_odd" = some (some (.ref f_law_odd))) (l_law_odd : K.lookup f_law_odd = some ⟨oc_law_odd, od_law_odd, .func (PySem.W.fnOf "_law_odd" "_law_odd" (defArgs s_law_odd) (defBody s_law_odd) (defScope s_law_odd) .none kV_law_odd dc_law_odd pm_law_odd an_law_odd cd_law_odd ct_law_odd), sl_law_odd⟩) (c_law_odd : PySem.W.codeIn K cd_law_odd "_law_odd" = true) (k_law_odd : PySem.W.keepIn K (.ref f_law_odd) = true)
    (a_law_any_value : PySem.W.nsIn K mainGlobals "_law_any_value" = some (some (.ref f_law_any_value))) (l_law_any_value : K.lookup f_law_any_value = some ⟨oc_law_any_value, od_law_any_value, .func (PySem.W.fnOf "_law_any_value" "_law_any_value" (defArgs s_law_any_value) (defBody s_law_any_value) (defScope s_law_any_value) .none kV_law_any_value dc_law_any_value pm_law_any_value an_law_any_value cd_law_any_value ct_law_any_value), sl_law_any_value⟩) (c_law_any_value : PySem.W.codeIn K cd_law_any_value "_law_any_value" = true) (k_law_any_value : PySem.W.keepIn K (.ref f_law_any_value) = true)
    (a_law : PySem.W.nsIn K mainGlobals "law" = some (some (.ref f_law))) (l_law : K.lookup f_law = some ⟨oc_law, od_law, .func (PySem.W.fnOf "law" "law" (defArgs s_law) (defBody s_law) (defScope s_law) .none kV_law dc_law pm_law an_law cd_law ct_law), sl_law⟩) (c_law : PySem.W.codeIn K cd_law "law" = true) (k_law : PySem.W.keepIn K (.ref f_law) = true)
    (n_all : PySem.W.nsIn K mainGlobals "all" = some none)
    (n_bool : PySem.W.nsIn K mainGlobals "bool" = some none)
    (n_dict : PySem.W.nsIn K mainGlobals "dict" = some none)
    (n_int : PySem.W.nsIn K mainGlobals "int" = some none)
    (n_isinstance : PySem.W.nsIn K mainGlobals "isinstance" = some none)
    (n_len : PySem.W.nsIn K mainGlobals "len" = some none)
    (n_list : PySem.W.nsIn K mainGlobals "list" = some none)
    (n_range : PySem.W.nsIn K mainGlobals "range" = some none)
    (n_str : PySem.W.nsIn K mainGlobals "str" = some none)
    (n_tuple : PySem.W.nsIn K mainGlobals "tuple" = some none)
    (n_zip : PySem.W.nsIn K mainGlobals "zip" = some none)
    {tk_MOST_WORD : Tok} (g_MOST_WORD : PySem.W.nsIn K mainGlobals "MOST_WORD" = some (some (.int 65535 tk_MOST_WORD)))
    : ∃ fd : FuncData, (∀ (s : Shared) (v : Value), BindsTo s fd ⟨[v], []⟩ [("_law_script", v)]) ∧ ∀ base : Heap, K.In base → base.Ns mainGlobals mg → FnOk l.prog w K mg base CX0 9 fa fd ["_law_script"] (sp_law K) := by
  have e := hfa.symm.trans (PySem.W.mg_of X G a_law)
  cases e
  have F_is_word := fun_mk (st := s_is_word) l_is_word c_is_word k_is_word
  have F_is_number := fun_mk (st := s_is_number) l_is_number c_is_number k_is_number
  have F_is_strings := fun_mk (st := s_is_strings) l_is_strings c_is_strings k_is_strings
  have F_wrapped := fun_mk (st := s_wrapped) l_wrapped c_wrapped k_wrapped
  have F_is_address := fun_mk (st := s_is_address) l_is_address c_is_address k_is_address
  have F_sum_of := fun_mk (st := s_sum_of) l_sum_of c_sum_of k_sum_of
  have F_difference := fun_mk (st := s_difference) l_difference c_difference k_difference
  have F_in_place := fun_mk (st := s_in_place) l_in_place c_in_place k_in_place
  have F_is_count := fun_mk (st := s_is_count) l_is_count c_is_count k_is_count
  have F_moved := fun_mk (st := s_moved) l_moved c_moved k_moved
  have F_law_draw := fun_mk (st := s_law_draw) l_law_draw c_law_draw k_law_draw
  have F_law_of := fun_mk (st := s_law_of) l_law_of c_law_of k_law_of
  have F_law_number := fun_mk (st := s_law_number) l_law_number c_law_number k_law_number
  have F_law_bag := fun_mk (st := s_law_bag) l_law_bag c_law_bag k_law_bag
  have F_law_words := fun_mk (st := s_law_words) l_law_words c_law_words k_law_words
  have F_law_is_value := fun_mk (st := s_law_is_value) l_law_is_value c_law_is_value k_law_is_value
  have F_law_same := fun_mk (st := s_law_same) l_law_same c_law_same k_law_same
  have F_law_sum := fun_mk (st := s_law_sum) l_law_sum c_law_sum k_law_sum
  have F_law_less := fun_mk (st := s_law_less) l_law_less c_law_less k_law_less
  have F_law_nest := fun_mk (st := s_law_nest) l_law_nest c_law_nest k_law_nest
  have F_law_odd := fun_mk (st := s_law_odd) l_law_odd c_law_odd k_law_odd
  have F_law_any_value := fun_mk (st := s_law_any_value) l_law_any_value c_law_any_value k_law_any_value
  have F_law := fun_mk (st := s_law) l_law c_law k_law
  let Z : Fs := ⟨f_is_word, PySem.W.fnOf "is_word" "is_word" (defArgs s_is_word) (defBody s_is_word) (defScope s_is_word) .none kV_is_word dc_is_word pm_is_word an_is_word cd_is_word ct_is_word, f_is_number, PySem.W.fnOf "is_number" "is_number" (defArgs s_is_number) (defBody s_is_number) (defScope s_is_number) .none kV_is_number dc_is_number pm_is_number an_is_number cd_is_number ct_is_number, f_is_strings, PySem.W.fnOf "is_strings" "is_strings" (defArgs s_is_strings) (defBody s_is_strings) (defScope s_is_strings) .none kV_is_strings dc_is_strings pm_is_strings an_is_strings cd_is_strings ct_is_strings, f_wrapped, PySem.W.fnOf "wrapped" "wrapped" (defArgs s_wrapped) (defBody s_wrapped) (defScope s_wrapped) .none kV_wrapped dc_wrapped pm_wrapped an_wrapped cd_wrapped ct_wrapped, f_is_address, PySem.W.fnOf "is_address" "is_address" (defArgs s_is_address) (defBody s_is_address) (defScope s_is_address) .none kV_is_address dc_is_address pm_is_address an_is_address cd_is_address ct_is_address, f_sum_of, PySem.W.fnOf "sum_of" "sum_of" (defArgs s_sum_of) (defBody s_sum_of) (defScope s_sum_of) .none kV_sum_of dc_sum_of pm_sum_of an_sum_of cd_sum_of ct_sum_of, f_difference, PySem.W.fnOf "difference" "difference" (defArgs s_difference) (defBody s_difference) (defScope s_difference) .none kV_difference dc_difference pm_difference an_difference cd_difference ct_difference, f_in_place, PySem.W.fnOf "in_place" "in_place" (defArgs s_in_place) (defBody s_in_place) (defScope s_in_place) .none kV_in_place dc_in_place pm_in_place an_in_place cd_in_place ct_in_place, f_is_count, PySem.W.fnOf "_is_count" "_is_count" (defArgs s_is_count) (defBody s_is_count) (defScope s_is_count) .none kV_is_count dc_is_count pm_is_count an_is_count cd_is_count ct_is_count, f_moved, PySem.W.fnOf "_moved" "_moved" (defArgs s_moved) (defBody s_moved) (defScope s_moved) .none kV_moved dc_moved pm_moved an_moved cd_moved ct_moved, f_law_draw, PySem.W.fnOf "_law_draw" "_law_draw" (defArgs s_law_draw) (defBody s_law_draw) (defScope s_law_draw) .none kV_law_draw dc_law_draw pm_law_draw an_law_draw cd_law_draw ct_law_draw, f_law_of, PySem.W.fnOf "_law_of" "_law_of" (defArgs s_law_of) (defBody s_law_of) (defScope s_law_of) .none kV_law_of dc_law_of pm_law_of an_law_of cd_law_of ct_law_of, f_law_number, PySem.W.fnOf "_law_number" "_law_number" (defArgs s_law_number) (defBody s_law_number) (defScope s_law_number) .none kV_law_number dc_law_number pm_law_number an_law_number cd_law_number ct_law_number, f_law_bag, PySem.W.fnOf "_law_bag" "_law_bag" (defArgs s_law_bag) (defBody s_law_bag) (defScope s_law_bag) .none kV_law_bag dc_law_bag pm_law_bag an_law_bag cd_law_bag ct_law_bag, f_law_words, PySem.W.fnOf "_law_words" "_law_words" (defArgs s_law_words) (defBody s_law_words) (defScope s_law_words) .none kV_law_words dc_law_words pm_law_words an_law_words cd_law_words ct_law_words, f_law_is_value, PySem.W.fnOf "_law_is_value" "_law_is_value" (defArgs s_law_is_value) (defBody s_law_is_value) (defScope s_law_is_value) .none kV_law_is_value dc_law_is_value pm_law_is_value an_law_is_value cd_law_is_value ct_law_is_value, f_law_same, PySem.W.fnOf "_law_same" "_law_same" (defArgs s_law_same) (defBody s_law_same) (defScope s_law_same) .none kV_law_same dc_law_same pm_law_same an_law_same cd_law_same ct_law_same, f_law_sum, PySem.W.fnOf "_law_sum" "_law_sum" (defArgs s_law_sum) (defBody s_law_sum) (defScope s_law_sum) .none kV_law_sum dc_law_sum pm_law_sum an_law_sum cd_law_sum ct_law_sum, f_law_less, PySem.W.fnOf "_law_less" "_law_less" (defArgs s_law_less) (defBody s_law_less) (defScope s_law_less) .none kV_law_less dc_law_less pm_law_less an_law_less cd_law_less ct_law_less, f_law_nest, PySem.W.fnOf "_law_nest" "_law_nest" (defArgs s_law_nest) (defBody s_law_nest) (defScope s_law_nest) .none kV_law_nest dc_law_nest pm_law_nest an_law_nest cd_law_nest ct_law_nest, f_law_odd, PySem.W.fnOf "_law_odd" "_law_odd" (defArgs s_law_odd) (defBody s_law_odd) (defScope s_law_odd) .none kV_law_odd dc_law_odd pm_law_odd an_law_odd cd_law_odd ct_law_odd, f_law_any_value, PySem.W.fnOf "_law_any_value" "_law_any_value" (defArgs s_law_any_value) (defBody s_law_any_value) (defScope s_law_any_value) .none kV_law_any_value dc_law_any_value pm_law_any_value an_law_any_value cd_law_any_value ct_law_any_value, fa, PySem.W.fnOf "law" "law" (defArgs s_law) (defBody s_law) (defScope s_law) .none kV_law dc_law pm_law an_law cd_law ct_law⟩
  have T : Txt K w mg Z := ⟨F_is_word,
    PySem.W.mg_of X G a_is_word,
    F_is_word.binds (ps := ["value"]) fun _ _ _ _ _ _ us hl => match us, hl with | [_], _ => rfl,
    F_is_number,
    PySem.W.mg_of X G a_is_number,
    F_is_number.binds (ps := ["value", "least", "most"]) fun _ _ _ _ _ _ us hl => match us, hl with | [_, _, _], _ => rfl,
    F_is_strings,
    PySem.W.mg_of X G a_is_strings,
    F_is_strings.binds (ps := ["value", "many"]) fun _ _ _ _ _ _ us hl => match us, hl with | [_, _], _ => rfl,
    F_wrapped,
    PySem.W.mg_of X G a_wrapped,
    F_wrapped.binds (ps := ["value"]) fun _ _ _ _ _ _ us hl => match us, hl with | [_], _ => rfl,
    F_is_address,
    PySem.W.mg_of X G a_is_address,
    F_is_address.binds (ps := ["value"]) fun _ _ _ _ _ _ us hl => match us, hl with | [_], _ => rfl,
    F_sum_of,
    PySem.W.mg_of X G a_sum_of,
    F_sum_of.binds (ps := ["one", "other"]) fun _ _ _ _ _ _ us hl => match us, hl with | [_, _], _ => rfl,
    kbn_k_sum_of_0_other_one F_sum_of,
    F_difference,
    PySem.W.mg_of X G a_difference,
    F_difference.binds (ps := ["one", "other"]) fun _ _ _ _ _ _ us hl => match us, hl with | [_, _], _ => rfl,
    F_in_place,
    PySem.W.mg_of X G a_in_place,
    F_in_place.binds (ps := ["value", "cells"]) fun _ _ _ _ _ _ us hl => match us, hl with | [_, _], _ => rfl,
    kbn_k_in_place_0_cells_value F_in_place,
    F_is_count,
    PySem.W.mg_of X G a_is_count,
    F_is_count.binds (ps := ["value"]) fun _ _ _ _ _ _ us hl => match us, hl with | [_], _ => rfl,
    F_moved,
    PySem.W.mg_of X G a_moved,
    F_moved.binds (ps := ["value", "words"]) fun _ _ _ _ _ _ us hl => match us, hl with | [_, _], _ => rfl,
    F_law_draw,
    PySem.W.mg_of X G a_law_draw,
    F_law_draw.binds (ps := ["_law_bag_here", "_law_many"]) fun _ _ _ _ _ _ us hl => match us, hl with | [_, _], _ => rfl,
    F_law_of,
    PySem.W.mg_of X G a_law_of,
    F_law_of.binds (ps := ["_law_bag_here", "_law_some"]) fun _ _ _ _ _ _ us hl => match us, hl with | [_, _], _ => rfl,
    F_law_number,
    PySem.W.mg_of X G a_law_number,
    F_law_number.binds (ps := ["_law_bag_here"]) fun _ _ _ _ _ _ us hl => match us, hl with | [_], _ => rfl,
    F_law_bag,
    PySem.W.mg_of X G a_law_bag,
    F_law_bag.binds (ps := ["_law_script"]) fun _ _ _ _ _ _ us hl => match us, hl with | [_], _ => rfl,
    F_law_words,
    PySem.W.mg_of X G a_law_words,
    F_law_words.binds (ps := ["_law_bag_here", "_law_many"]) fun _ _ _ _ _ _ us hl => match us, hl with | [_, _], _ => rfl,
    F_law_is_value,
    PySem.W.mg_of X G a_law_is_value,
    F_law_is_value.binds (ps := ["_law_value"]) fun _ _ _ _ _ _ us hl => match us, hl with | [_], _ => rfl,
    F_law_same,
    PySem.W.mg_of X G a_law_same,
    F_law_same.binds (ps := ["_law_found", "_law_due"]) fun _ _ _ _ _ _ us hl => match us, hl with | [_, _], _ => rfl,
    F_law_sum,
    PySem.W.mg_of X G a_law_sum,
    F_law_sum.binds (ps := ["_law_one", "_law_other"]) fun _ _ _ _ _ _ us hl => match us, hl with | [_, _], _ => rfl,
    F_law_less,
    PySem.W.mg_of X G a_law_less,
    F_law_less.binds (ps := ["_law_one", "_law_other"]) fun _ _ _ _ _ _ us hl => match us, hl with | [_, _], _ => rfl,
    F_law_nest,
    PySem.W.mg_of X G a_law_nest,
    F_law_nest.binds (ps := []) fun _ _ _ _ _ _ us hl => match us, hl with | [], _ => rfl,
    F_law_odd,
    PySem.W.mg_of X G a_law_odd,
    F_law_odd.binds (ps := ["_law_bag_here"]) fun _ _ _ _ _ _ us hl => match us, hl with | [_], _ => rfl,
    F_law_any_value,
    PySem.W.mg_of X G a_law_any_value,
    F_law_any_value.binds (ps := ["_law_bag_here", "_law_words_here"]) fun _ _ _ _ _ _ us hl => match us, hl with | [_, _], _ => rfl,
    F_law,
    PySem.W.mg_of X G a_law,
    F_law.binds (ps := ["_law_script"]) fun _ _ _ _ _ _ us hl => match us, hl with | [_], _ => rfl,
    PySem.W.mg_none_of X G n_all,
    PySem.W.mg_none_of X G n_bool,
    PySem.W.mg_none_of X G n_dict,
    PySem.W.mg_none_of X G n_int,
    PySem.W.mg_none_of X G n_isinstance,
    PySem.W.mg_none_of X G n_len,
    PySem.W.mg_none_of X G n_list,
    PySem.W.mg_none_of X G n_range,
    PySem.W.mg_none_of X G n_str,
    PySem.W.mg_none_of X G n_tuple,
    PySem.W.mg_none_of X G n_zip,
    ⟨_, PySem.W.mg_of X G g_MOST_WORD⟩⟩
  exact ⟨Z.d_law, fun s v => .of_eq rfl, fun base _ _ => ok_law T⟩
end Kk
open PySem PySem.W PyProof.Rows
set_option maxRecDepth 100000 in
set_option maxHeartbeats 0 in
theorem PySem.Challenge.cw_leastimage_k52_values_added_and_taken_holds : PySem.Challenge.rw_leastimage_k52_values_added_and_taken.Holds := by
  w_on; o_law; k_head; (case hw => w_witness2)
  k_fill
  refine L2.walk_of (l := PySem.Challenge.rw_leastimage_k52_values_added_and_taken) (n := 63) (k := 9) (x := "_law_script") (CX := fun _ => L2.CX0) (sp := fun w => Kk.sp_law _) rfl (by decide) rfl ⟨rfl, by decide, by decide⟩ (fun w h Y => PySem.W.kIn_of Y) ?F (fun _ _ a ns hl _ hS => ⟨a, ns, rfl, hS, hl, fun _ => rfl⟩) (fun _ _ _ _ _ h => h)
  case F =>
    intro w mg fa h KX G hmg
    refine' Kk.all_mk KX G hmg ?a_is_word ?l_is_word ?c_is_word ?k_is_word ?a_is_number ?l_is_number ?c_is_number ?k_is_number ?a_is_strings ?l_is_strings ?c_is_strings ?k_is_strings ?a_wrapped ?l_wrapped ?c_wrapped ?k_wrapped ?a_is_address ?l_is_address ?c_is_address ?k_is_address ?a_sum_of ?l_sum_of ?c_sum_of ?k_sum_of ?a_difference ?l_difference ?c_difference ?k_difference ?a_in_place ?l_in_place ?c_in_place ?k_in_place ?a_is_count ?l_is_count ?c_is_count ?k_is_count ?a_moved ?l_moved ?c_moved ?k_moved ?a_law_draw ?l_law_draw ?c_law_draw ?k_law_draw ?a_law_of ?l_law_of ?c_law_of ?k_law_of ?a_law_number ?l_law_number ?c_law_number ?k_law_number ?a_law_bag ?l_law_bag ?c_law_bag ?k_law_bag ?a_law_words ?l_law_words ?c_law_words ?k_law_words ?a_law_is_value ?l_law_is_value ?c_law_is_value ?k_law_is_value ?a_law_same ?l_law_same ?c_law_same ?k_law_same ?a_law_sum ?l_law_sum ?c_law_sum ?k_law_sum ?a_law_less ?l_law_less ?c_law_less ?k_law_less ?a_law_nest ?l_law_nest ?c_law_nest ?k_law_nest ?a_law_odd ?l_law_odd ?c_law_odd ?k_law_odd ?a_law_any_value ?l_law_any_value ?c_law_any_value ?k_law_any_value ?a_law ?l_law ?c_law ?k_law ?n_all ?n_bool ?n_dict ?n_int ?n_isinstance ?n_len ?n_list ?n_range ?n_str ?n_tuple ?n_zip ?g_MOST_WORD
    (case a_is_word => k_is)
    (case l_is_word => k_is)
    (case c_is_word => k_is)
    (case k_is_word => k_is)
    (case a_is_number => k_is)
    (case l_is_number => k_is)
    (case c_is_number => k_is)
    (case k_is_number => k_is)
    (case a_is_strings => k_is)
    (case l_is_strings => k_is)
    (case c_is_strings => k_is)
    (case k_is_strings => k_is)
    (case a_wrapped => k_is)
    (case l_wrapped => k_is)
    (case c_wrapped => k_is)
    (case k_wrapped => k_is)
    (case a_is_address => k_is)
    (case l_is_address => k_is)
    (case c_is_address => k_is)
    (case k_is_address => k_is)
    (case a_sum_of => k_is)
    (case l_sum_of => k_is)
    (case c_sum_of => k_is)
    (case k_sum_of => k_is)
    (case a_difference => k_is)
    (case l_difference => k_is)
    (case c_difference => k_is)
    (case k_difference => k_is)
    (case a_in_place => k_is)
    (case l_in_place => k_is)
    (case c_in_place => k_is)
    (case k_in_place => k_is)
    (case a_is_count => k_is)
    (case l_is_count => k_is)
    (case c_is_count => k_is)
    (case k_is_count => k_is)
    (case a_moved => k_is)
    (case l_moved => k_is)
    (case c_moved => k_is)
    (case k_moved => k_is)
    (case a_law_draw => k_is)
    (case l_law_draw => k_is)
    (case c_law_draw => k_is)
    (case k_law_draw => k_is)
    (case a_law_of => k_is)
    (case l_law_of => k_is)
    (case c_law_of => k_is)
    (case k_law_of => k_is)
    (case a_law_number => k_is)
    (case l_law_number => k_is)
    (case c_law_number => k_is)
    (case k_law_number => k_is)
    (case a_law_bag => k_is)
    (case l_law_bag => k_is)
    (case c_law_bag => k_is)
    (case k_law_bag => k_is)
    (case a_law_words => k_is)
    (case l_law_words => k_is)
    (case c_law_words => k_is)
    (case k_law_words => k_is)
    (case a_law_is_value => k_is)
    (case l_law_is_value => k_is)
    (case c_law_is_value => k_is)
    (case k_law_is_value => k_is)
    (case a_law_same => k_is)
    (case l_law_same => k_is)
    (case c_law_same => k_is)
    (case k_law_same => k_is)
    (case a_law_sum => k_is)
    (case l_law_sum => k_is)
    (case c_law_sum => k_is)
    (case k_law_sum => k_is)
    (case a_law_less => k_is)
    (case l_law_less => k_is)
    (case c_law_less => k_is)
    (case k_law_less => k_is)
    (case a_law_nest => k_is)
    (case l_law_nest => k_is)
    (case c_law_nest => k_is)
    (case k_law_nest => k_is)
    (case a_law_odd => k_is)
    (case l_law_odd => k_is)
    (case c_law_odd => k_is)
    (case k_law_odd => k_is)
    (case a_law_any_value => k_is)
    (case l_law_any_value => k_is)
    (case c_law_any_value => k_is)
    (case k_law_any_value => k_is)
    (case a_law => k_is)
    (case l_law => k_is)
    (case c_law => k_is)
    (case k_law => k_is)
    (case n_all => k_is)
    (case n_bool => k_is)
    (case n_dict => k_is)
    (case n_int => k_is)
    (case n_isinstance => k_is)
    (case n_len => k_is)
    (case n_list => k_is)
    (case n_range => k_is)
    (case n_str => k_is)
    (case n_tuple => k_is)
    (case n_zip => k_is)
    (case g_MOST_WORD => k_is)

