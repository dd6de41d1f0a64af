import PyProof.Rows.All
import Wide.All
import OpenK.AllK
import Wide.FinOn
import HandS.ForMost
import HandS.Walk
import HandS.IsInst
import HandS.Zip
import HandS.Style
import HandS.Codes
import HandS.Defaults
import HandS.Evl
import HandS.More
import HandS.Strs
import HandS.FStr
import HandS.MakeKw
import HandS.MakeKwOnly
import HandS.OwnEq
import HandS.Property
import HandS.Star
import HandS.RaiseMore
import HandS.StrMore
import HandS.Text
import KE.GoesEnum
import KE.GoesMore
import KE.RegKIsAll
import KE.IntTextText
import KE.KIntText
import KE.OsScanText
import PySem.Challenge.RW_leastimage_k13_sizes_and_fields
set_option Elab.async false
set_option maxRecDepth 100000
set_option maxHeartbeats 4000000
set_option linter.all false
namespace Kk
open PySem L2 PyProof.Rows
/-! ### the text by places, what the top has written -/
/-- a table of the text: the first entry of a word -/
def findT {α : Type} (l : List (Str × α)) (z : Str) : Option α := (l.find? fun p => decide (p.1 = z)).map (·.2)
def RelOpt {α : Type} (R : α → Value → Prop) : Option α → Option Value → Prop
  | some x, some u => R x u
  | none, none => True
  | _, _ => False
def RelTu (K : PySem.W.Frag) (xs : List V) (u : Value) : Prop := ∃ t, u = .ref t ∧ ∀ H : Hp, SqT K H t xs
theorem find_rel {α : Type} {R : α → Value → Prop} : ∀ {l : List (Str × α)} {m : List (Str × Value)}, Paired (fun (p : Str × α) (q : Str × Value) => p.1 = q.1 ∧ R p.2 q.2) l m → ∀ z, RelOpt R (findT l z) (findT m z)
  | _, _, .nil, _ => trivial
  | p :: l, q :: m, .cons r t, z => by
    unfold findT
    rw [List.find?_cons, List.find?_cons, ← r.1]
    cases decide (p.1 = z) with
    | true => exact r.2
    | false => exact find_rel t z
theorem nsIn_of {K : PySem.W.Frag} {c : Addr} {ty : Value} {dd : Option Addr} {es : Array DictEntry} {n : Nat} {sl : Array (Option Value)} (h : K.lookup c = some ⟨ty, dd, .dict es n, sl⟩) {L : List (Str × Value)}
    (e : Paired (fun (d : DictEntry) (p : Str × Value) => (∃ t, d.key = .str p.1 t) ∧ d.val = p.2) es.toList L) (z : Str) : PySem.W.nsIn K c z = some (findT L z) := by
  unfold PySem.W.nsIn
  rw [h]
  dsimp only
  have k : ∀ (l : List DictEntry) (L : List (Str × Value)), Paired (fun (d : DictEntry) (p : Str × Value) => (∃ t, d.key = .str p.1 t) ∧ d.val = p.2) l L → (l.find? (·.key.isStr z)).map (·.val) = findT L z ∧ l.any (·.refKey) = false := by
    intro l L e
    induction e with
    | nil => exact ⟨rfl, rfl⟩
    | @cons d p l L r _ ih =>
      obtain ⟨⟨t, hk⟩, hv⟩ := r
      have e1 : d.key.isStr z = decide (p.1 = z) := by
        rw [hk]
        show (p.1 == z) = decide (p.1 = z)
        rw [Bool.eq_iff_iff]
        simp
      have e2 : d.refKey = false := by
        unfold DictEntry.refKey
        rw [hk]
      refine ⟨?_, by rw [List.any_cons, e2, ih.2]; rfl⟩
      unfold findT at ih ⊢
      rw [List.find?_cons, List.find?_cons, e1]
      cases decide (p.1 = z) with
      | true => exact congrArg some hv
      | false => exact ih.1
  obtain ⟨k1, k2⟩ := k _ _ e
  cases q : es.toList.find? (·.key.isStr z) with
  | some d =>
    rw [q] at k1
    rw [← k1]
    rfl
  | none =>
    rw [q] at k1
    rw [← k1]
    simp [k2]
def top (i : Nat) : Stmt := PySem.Challenge.pw_leastimage_k13_sizes_and_fields.main.body.getD i (.Pass ⟨0, 0, 0, 0⟩)
abbrev s_row_size : Stmt := top 4
abbrev N_row_size : List Str := ["row", "long", "word"]
theorem sc_row_size : FnScope N_row_size ["row", "long"] (defScope s_row_size) := ⟨rfl, rfl, rfl, by decide +kernel, rfl, by decide +kernel, by decide +kernel⟩
abbrev s_row_fields : Stmt := top 5
abbrev N_row_fields : List Str := ["row", "long", "word", "at"]
theorem sc_row_fields : FnScope N_row_fields ["row", "long"] (defScope s_row_fields) := ⟨rfl, rfl, rfl, by decide +kernel, rfl, by decide +kernel, by decide +kernel⟩
abbrev s_law_bag : Stmt := top 7
abbrev N_law_bag : List Str := ["_law_script", "_law_mixed", "_law_piled"]
theorem sc_law_bag : FnScope N_law_bag ["_law_script"] (defScope s_law_bag) := ⟨rfl, rfl, rfl, by decide +kernel, rfl, by decide +kernel, by decide +kernel⟩
abbrev s_law_draw : Stmt := top 8
abbrev N_law_draw : List Str := ["_law_bag_here", "_law_sides", "_law_piled", "_law_digit", "_law_seed"]
theorem sc_law_draw : FnScope N_law_draw ["_law_bag_here", "_law_sides"] (defScope s_law_draw) := ⟨rfl, rfl, rfl, by decide +kernel, rfl, by decide +kernel, by decide +kernel⟩
abbrev s_law_of : Stmt := top 9
abbrev N_law_of : List Str := ["_law_bag_here", "_law_things"]
theorem sc_law_of : FnScope N_law_of ["_law_bag_here", "_law_things"] (defScope s_law_of) := ⟨rfl, rfl, rfl, by decide +kernel, rfl, by decide +kernel, by decide +kernel⟩
abbrev s_law_same : Stmt := top 10
abbrev N_law_same : List Str := ["_law_found", "_law_due", "_law_a", "_law_b"]
theorem sc_law_same : FnScope N_law_same ["_law_found", "_law_due"] (defScope s_law_same) := ⟨rfl, rfl, rfl, by decide +kernel, rfl, by decide +kernel, by decide +kernel⟩
abbrev s_law_titles : Stmt := top 11
abbrev N_law_titles : List Str := ["_law_bag_here", "_law_many", "_law_left", "_law_found", "_law_stem", "_law_k", "_law_spot"]
theorem sc_law_titles : FnScope N_law_titles ["_law_bag_here", "_law_many"] (defScope s_law_titles) := ⟨rfl, rfl, rfl, by decide +kernel, rfl, by decide +kernel, by decide +kernel⟩
abbrev s_law_number : Stmt := top 12
abbrev N_law_number : List Str := ["_law_bag_here"]
theorem sc_law_number : FnScope N_law_number ["_law_bag_here"] (defScope s_law_number) := ⟨rfl, rfl, rfl, by decide +kernel, rfl, by decide +kernel, by decide +kernel⟩
abbrev s_law_r : Stmt := top 13
abbrev N_law_r : List Str := ["_law_bag_here"]
theorem sc_law_r : FnScope N_law_r ["_law_bag_here"] (defScope s_law_r) := ⟨rfl, rfl, rfl, by decide +kernel, rfl, by decide +kernel, by decide +kernel⟩
abbrev s_law_code_row : Stmt := top 14
abbrev N_law_code_row : List Str := ["_law_bag_here", "_law_titles_here", "_law_way"]
theorem sc_law_code_row : FnScope N_law_code_row ["_law_bag_here", "_law_titles_here"] (defScope s_law_code_row) := ⟨rfl, rfl, rfl, by decide +kernel, rfl, by decide +kernel, by decide +kernel⟩
abbrev s_law_data_row : Stmt := top 15
abbrev N_law_data_row : List Str := ["_law_bag_here", "_law_titles_here", "_law_way"]
theorem sc_law_data_row : FnScope N_law_data_row ["_law_bag_here", "_law_titles_here"] (defScope s_law_data_row) := ⟨rfl, rfl, rfl, by decide +kernel, rfl, by decide +kernel, by decide +kernel⟩
abbrev s_law_size : Stmt := top 16
abbrev N_law_size : List Str := ["_law_one", "_law_far", "_law_table"]
theorem sc_law_size : FnScope N_law_size ["_law_one", "_law_far"] (defScope s_law_size) := ⟨rfl, rfl, rfl, by decide +kernel, rfl, by decide +kernel, by decide +kernel⟩
abbrev s_law_fields : Stmt := top 17
abbrev N_law_fields : List Str := ["_law_one", "_law_far"]
theorem sc_law_fields : FnScope N_law_fields ["_law_one", "_law_far"] (defScope s_law_fields) := ⟨rfl, rfl, rfl, by decide +kernel, rfl, by decide +kernel, by decide +kernel⟩
abbrev s_law_each : Stmt := top 18
abbrev N_law_each : List Str := ["_law_bag_here", "_law_titles_here", "_law_a", "_law_b", "_law_own", "_law_found"]
theorem sc_law_each : FnScope N_law_each ["_law_bag_here", "_law_titles_here"] (defScope s_law_each) := ⟨rfl, rfl, rfl, by decide +kernel, rfl, by decide +kernel, by decide +kernel⟩
abbrev s_law : Stmt := top 19
abbrev N_law : List Str := ["_law_script", "_law_bag_here", "_law_titles_here", "_law_one", "_law_far", "_law_due", "_law_told", "_law_found"]
theorem sc_law : FnScope N_law ["_law_script"] (defScope s_law) := ⟨rfl, rfl, rfl, by decide +kernel, rfl, by decide +kernel, by decide +kernel⟩
structure Fs where
  (a_row_size : Addr) (d_row_size : FuncData)
  (a_row_fields : Addr) (d_row_fields : FuncData)
  (a_law_bag : Addr) (d_law_bag : FuncData)
  (a_law_draw : Addr) (d_law_draw : FuncData)
  (a_law_of : Addr) (d_law_of : FuncData)
  (a_law_same : Addr) (d_law_same : FuncData)
  (a_law_titles : Addr) (d_law_titles : FuncData)
  (a_law_number : Addr) (d_law_number : FuncData)
  (a_law_r : Addr) (d_law_r : FuncData)
  (a_law_code_row : Addr) (d_law_code_row : FuncData)
  (a_law_data_row : Addr) (d_law_data_row : FuncData)
  (a_law_size : Addr) (d_law_size : FuncData)
  (a_law_fields : Addr) (d_law_fields : FuncData)
  (a_law_each : Addr) (d_law_each : FuncData)
  (a_law : Addr) (d_law : FuncData)
  (e_HIGH_CELLS : Array DictEntry) (z_HIGH_CELLS : Nat)
  (e_LONG_SIZES : Array DictEntry) (z_LONG_SIZES : Nat)
  (c_HIGH_CELLS : Addr)
  (c_LONG_SIZES : Addr)
def tb_HIGH_CELLS : List (Str × V) := [("name", .int 0), ("jump", .int 0), ("ifzero", .int 2), ("call", .int 0)]
def tb_LONG_SIZES : List (Str × V) := [("name", .int 2), ("jump", .int 3), ("ifzero", .int 5), ("call", .int 3)]
structure Txt (K : PySem.W.Frag) (w : World) (mg : Str → Option Value) (Z : Fs) : Prop where
  F_row_size : FunD K "row_size" "row_size" (defArgs s_row_size) (defBody s_row_size) (defScope s_row_size) [.bl false] [] Z.a_row_size Z.d_row_size
  m_row_size : mg "row_size" = some (.ref Z.a_row_size)
  d_row_size_1 : ∃ ds, Vals ([.bl false].drop 0) ds ∧ Binds K Z.d_row_size ["row", "long"] ds
  d_row_size_0_long_row : ∃ g, KBn K Z.d_row_size ["row", "long"] 0 ["long", "row"] g (fun us ws => [(us ++ ws).getD 1 .non, (us ++ ws).getD 0 .non])
  d_row_size_2 : ∃ ds, Vals ([.bl false].drop 1) ds ∧ Binds K Z.d_row_size ["row", "long"] ds
  F_row_fields : FunD K "row_fields" "row_fields" (defArgs s_row_fields) (defBody s_row_fields) (defScope s_row_fields) [.bl false] [] Z.a_row_fields Z.d_row_fields
  m_row_fields : mg "row_fields" = some (.ref Z.a_row_fields)
  d_row_fields_1 : ∃ ds, Vals ([.bl false].drop 0) ds ∧ Binds K Z.d_row_fields ["row", "long"] ds
  d_row_fields_2 : ∃ ds, Vals ([.bl false].drop 1) ds ∧ Binds K Z.d_row_fields ["row", "long"] ds
  d_row_fields_0_row_long : ∃ g, KBn K Z.d_row_fields ["row", "long"] 0 ["row", "long"] g (fun us ws => [(us ++ ws).getD 0 .non, (us ++ ws).getD 1 .non])
  F_law_bag : Fun K "_law_bag" "_law_bag" s_law_bag Z.a_law_bag Z.d_law_bag
  m_law_bag : mg "_law_bag" = some (.ref Z.a_law_bag)
  b_law_bag : Binds K Z.d_law_bag ["_law_script"] []
  F_law_draw : Fun K "_law_draw" "_law_draw" s_law_draw Z.a_law_draw Z.d_law_draw
  m_law_draw : mg "_law_draw" = some (.ref Z.a_law_draw)
  b_law_draw : Binds K Z.d_law_draw ["_law_bag_here", "_law_sides"] []
  F_law_of : Fun K "_law_of" "_law_of" s_law_of Z.a_law_of Z.d_law_of
  m_law_of : mg "_law_of" = some (.ref Z.a_law_of)
  b_law_of : Binds K Z.d_law_of ["_law_bag_here", "_law_things"] []
  F_law_same : Fun K "_law_same" "_law_same" s_law_same Z.a_law_same Z.d_law_same
  m_law_same : mg "_law_same" = some (.ref Z.a_law_same)
  b_law_same : Binds K Z.d_law_same ["_law_found", "_law_due"] []
  F_law_titles : Fun K "_law_titles" "_law_titles" s_law_titles Z.a_law_titles Z.d_law_titles
  m_law_titles : mg "_law_titles" = some (.ref Z.a_law_titles)
  b_law_titles : Binds K Z.d_law_titles ["_law_bag_here", "_law_many"] []
  F_law_number : Fun K "_law_number" "_law_number" s_law_number Z.a_law_number Z.d_law_number
  m_law_number : mg "_law_number" = some (.ref Z.a_law_number)
  b_law_number : Binds K Z.d_law_number ["_law_bag_here"] []
  F_law_r : Fun K "_law_r" "_law_r" s_law_r Z.a_law_r Z.d_law_r
  m_law_r : mg "_law_r" = some (.ref Z.a_law_r)
  b_law_r : Binds K Z.d_law_r ["_law_bag_here"] []
  F_law_code_row : Fun K "_law_code_row" "_law_code_row" s_law_code_row Z.a_law_code_row Z.d_law_code_row
  m_law_code_row : mg "_law_code_row" = some (.ref Z.a_law_code_row)
  b_law_code_row : Binds K Z.d_law_code_row ["_law_bag_here", "_law_titles_here"] []
  F_law_data_row : Fun K "_law_data_row" "_law_data_row" s_law_data_row Z.a_law_data_row Z.d_law_data_row
  m_law_data_row : mg "_law_data_row" = some (.ref Z.a_law_data_row)
  b_law_data_row : Binds K Z.d_law_data_row ["_law_bag_here", "_law_titles_here"] []
  F_law_size : Fun K "_law_size" "_law_size" s_law_size Z.a_law_size Z.d_law_size
  m_law_size : mg "_law_size" = some (.ref Z.a_law_size)
  b_law_size : Binds K Z.d_law_size ["_law_one", "_law_far"] []
  F_law_fields : Fun K "_law_fields" "_law_fields" s_law_fields Z.a_law_fields Z.d_law_fields
  m_law_fields : mg "_law_fields" = some (.ref Z.a_law_fields)
  b_law_fields : Binds K Z.d_law_fields ["_law_one", "_law_far"] []
  F_law_each : Fun K "_law_each" "_law_each" s_law_each Z.a_law_each Z.d_law_each
  m_law_each : mg "_law_each" = some (.ref Z.a_law_each)
  b_law_each : Binds K Z.d_law_each ["_law_bag_here", "_law_titles_here"] []
  F_law : Fun K "law" "law" s_law Z.a_law Z.d_law
  m_law : mg "law" = some (.ref Z.a_law)
  b_law : Binds K Z.d_law ["_law_script"] []
  n_abs : mg "abs" = none
  n_all : mg "all" = none
  n_bool : mg "bool" = none
  n_int : mg "int" = none
  n_isinstance : mg "isinstance" = none
  n_len : mg "len" = none
  n_list : mg "list" = none
  n_range : mg "range" = none
  n_str : mg "str" = none
  n_tuple : mg "tuple" = none
  n_zip : mg "zip" = none
  g_STUB : ∃ t, mg "STUB" = some (.int 4 t)
  g_HIGH_CELLS : mg "HIGH_CELLS" = some (.ref Z.c_HIGH_CELLS)
  g_LONG_SIZES : mg "LONG_SIZES" = some (.ref Z.c_LONG_SIZES)
  D_HIGH_CELLS : KDict K w Z.c_HIGH_CELLS Z.e_HIGH_CELLS Z.z_HIGH_CELLS
  x_HIGH_CELLS : ∀ z : Str, ∃ r, PySem.W.nsIn K Z.c_HIGH_CELLS z = some r ∧ RelOpt RelV (findT tb_HIGH_CELLS z) r
  D_LONG_SIZES : KDict K w Z.c_LONG_SIZES Z.e_LONG_SIZES Z.z_LONG_SIZES
  x_LONG_SIZES : ∀ z : Str, ∃ r, PySem.W.nsIn K Z.c_LONG_SIZES z = some r ∧ RelOpt RelV (findT tb_LONG_SIZES z) r
section
variable {X : Cx} {CX : CXT} {k : Nat} {f : Addr} {fd : FuncData} {ps ks : List Str} {sp : Sp} {E : XK} {x : Str} {p pos : Pos} {kws : List Keyword} {tk : TA} {g : List Value → List Value → List Value} {gV : List V → List V → List V}
/-- f(k = v, ..), no value by place -/
theorem pe_callN0 (F : FnOk X.prog X.w X.K X.mg X.base CX k f fd ps sp) (hr : Room k X.A) (hg : Gl X x) (hm : X.mg x = some (.ref f)) (hk : PySem.W.keepIn X.K (.ref f) = true) (hb : KBn X.K fd ps 0 ks g gV) (hx : Passes CX X E) (hkw : PK X kws tk)
    (hall : (backToKw pos (keywordEach kws X.env)).all (·.1.isSome) = true := by rfl) (hks : (backToKw pos (keywordEach kws X.env)).filterMap (·.1) = ks := by rfl) (hdb : (x == ("__debug__" : Str)) = false := by decide)
    (hpl : ((backTo pos (starEach [] X.env)).any (·.1) || (backToKw pos (keywordEach kws X.env)).any (·.1.isNone)) = false := by rfl) :
    PE X (.Call (.Name x p) [] kws pos) (tCallN 0 ks.length sp gV E tNil tk) := by
  refine ⟨fun pins s σ H Q I h => ?_⟩
  refine wpAny_Call_Name_kw (ld_glob I hg hm ?_ hdb)
  refine PySem.W.callWith_KW0 (h₀ := X.base) I.ok.mod.kin hk hall ?_ hpl
  refine thn (hkw.run pos pins s σ H _ I h) fun ws s2 ⟨zs, H2, I2, rz, l1, l2, q2⟩ => ⟨I2.kIn, ?_⟩
  rw [hks]
  exact run_fnN (us := []) (vs := []) F hr hb hx I2 .nil rz rfl l2 q2
end
theorem getD_rel : ∀ {vs : List V} {us : List Value} (h : Vals vs us) (i : Nat), RelV (vs.getD i .non) (us.getD i .none)
  | _, _, .nil, _ => rfl
  | _, _, .cons r _, 0 => r
  | _, _, .cons _ t, i + 1 => getD_rel t i
theorem kbn_d_row_size_1 {K : PySem.W.Frag} {f : Addr} {fd : FuncData} (F : FunD K "row_size" "row_size" (defArgs s_row_size) (defBody s_row_size) (defScope s_row_size) [.bl false] [] f fd) : ∃ ds, Vals ([.bl false].drop 0) ds ∧ Binds K fd ["row", "long"] ds :=
  F.binds1 (ps := ["row", "long"]) 1 0 (fun z => nomatch z) rfl fun T kV doc pm an cdv ct us its l1 l2 => match us, its, l1, l2 with
  | [_], [_], _, _ => ⟨_, rfl, rfl⟩
theorem kbn_d_row_size_0_long_row {K : PySem.W.Frag} {f : Addr} {fd : FuncData} (F : FunD K "row_size" "row_size" (defArgs s_row_size) (defBody s_row_size) (defScope s_row_size) [.bl false] [] f fd) : ∃ g, KBn K fd ["row", "long"] 0 ["long", "row"] g (fun us ws => [(us ++ ws).getD 1 .non, (us ++ ws).getD 0 .non]) := by
  obtain ⟨oc, od, dV, kV, doc, pm, an, cdv, ct, osl, rfl, lk, hcd, hD, hK⟩ := F.ex
  rcases hD with ⟨e, _⟩ | ⟨_, T, o, its, m, rfl, lT, oT, rT⟩
  · cases e
  · refine ⟨fun us ws => [(us ++ ws).getD 1 .none, (us ++ ws).getD 0 .none], fun s us ws X l1 l2 => ?_, fun r1 r2 => .cons (getD_rel (r1.append r2) 1) (.cons (getD_rel (r1.append r2) 0) (.nil))⟩
    have l3 : its.length = 1 := rT.length.symm
    match us, ws, its, l1, l2, l3, oT with
    | [], [_, _], [_], _, _, _, oT => exact BindsTo.of_looks fun M => looks_items X lT oT (.of_pure rfl)
theorem kbn_d_row_size_2 {K : PySem.W.Frag} {f : Addr} {fd : FuncData} (F : FunD K "row_size" "row_size" (defArgs s_row_size) (defBody s_row_size) (defScope s_row_size) [.bl false] [] f fd) : ∃ ds, Vals ([.bl false].drop 1) ds ∧ Binds K fd ["row", "long"] ds :=
  F.binds1 (ps := ["row", "long"]) 2 1 (fun z => nomatch z) rfl fun T kV doc pm an cdv ct us its l1 l2 => match us, its, l1, l2 with
  | [_, _], [_], _, _ => ⟨_, rfl, rfl⟩
theorem kbn_d_row_fields_1 {K : PySem.W.Frag} {f : Addr} {fd : FuncData} (F : FunD K "row_fields" "row_fields" (defArgs s_row_fields) (defBody s_row_fields) (defScope s_row_fields) [.bl false] [] f fd) : ∃ ds, Vals ([.bl false].drop 0) ds ∧ Binds K fd ["row", "long"] ds :=
  F.binds1 (ps := ["row", "long"]) 1 0 (fun z => nomatch z) rfl fun T kV doc pm an cdv ct us its l1 l2 => match us, its, l1, l2 with
  | [_], [_], _, _ => ⟨_, rfl, rfl⟩
theorem kbn_d_row_fields_2 {K : PySem.W.Frag} {f : Addr} {fd : FuncData} (F : FunD K "row_fields" "row_fields" (defArgs s_row_fields) (defBody s_row_fields) (defScope s_row_fields) [.bl false] [] f fd) : ∃ ds, Vals ([.bl false].drop 1) ds ∧ Binds K fd ["row", "long"] ds :=
  F.binds1 (ps := ["row", "long"]) 2 1 (fun z => nomatch z) rfl fun T kV doc pm an cdv ct us its l1 l2 => match us, its, l1, l2 with
  | [_, _], [_], _, _ => ⟨_, rfl, rfl⟩
theorem kbn_d_row_fields_0_row_long {K : PySem.W.Frag} {f : Addr} {fd : FuncData} (F : FunD K "row_fields" "row_fields" (defArgs s_row_fields) (defBody s_row_fields) (defScope s_row_fields) [.bl false] [] f fd) : ∃ g, KBn K fd ["row", "long"] 0 ["row", "long"] g (fun us ws => [(us ++ ws).getD 0 .non, (us ++ ws).getD 1 .non]) := by
  obtain ⟨oc, od, dV, kV, doc, pm, an, cdv, ct, osl, rfl, lk, hcd, hD, hK⟩ := F.ex
  rcases hD with ⟨e, _⟩ | ⟨_, T, o, its, m, rfl, lT, oT, rT⟩
  · cases e
  · refine ⟨fun us ws => [(us ++ ws).getD 0 .none, (us ++ ws).getD 1 .none], fun s us ws X l1 l2 => ?_, fun r1 r2 => .cons (getD_rel (r1.append r2) 0) (.cons (getD_rel (r1.append r2) 1) (.nil))⟩
    have l3 : its.length = 1 := rT.length.symm
    match us, ws, its, l1, l2, l3, oT with
    | [], [_, _], [_], _, _, _, oT => exact BindsTo.of_looks fun M => looks_items X lT oT (.of_pure rfl)
/-! ### the bag of the law: a list of a list of ints and four numbers -/
def Bag (H : Hp) (b l : Addr) : Prop := ∃ (ns : List Int) (i : Nat) (r m n : Int), H b = some (.lst [.ref l, .int i, .int r, .int m, .int n]) ∧ H l = some (.lst (ns.map V.int)) ∧ l ≠ b ∧ ns.length ≤ 63 ∧ 0 ≤ r ∧ 0 ≤ m ∧ m < 2147483648
/-- all that was tracked, the bag apart, is as it was -/
def Stp (b : Addr) (H H' : Hp) : Prop := ∀ a o, a ≠ b → H a = some o → H' a = some o
theorem Stp.refl {b : Addr} {H : Hp} : Stp b H H := fun _ _ _ h => h
theorem Stp.trans {b : Addr} {H H1 H2 : Hp} (x : Stp b H H1) (y : Stp b H1 H2) : Stp b H H2 := fun a o n h => y a o n (x a o n h)
theorem Stp.put {b : Addr} {H : Hp} {o : HO} : Stp b H (upd H b o) := fun a u n h => by rw [upd_ne n]; exact h
theorem Stp.new {b p : Addr} {H : Hp} {o : HO} (h : H p = none) : Stp b H (upd H p o) := fun a u _ e => by rw [upd_ne (ne_of_none e h)]; exact e
theorem Same.new {p : Addr} {H : Hp} {o : HO} (h : H p = none) : Same H (upd H p o) := fun a u e => by rw [upd_ne (ne_of_none e h)]; exact e
theorem Same.stp {b : Addr} {H H' : Hp} (h : Same H H') : Stp b H H' := fun a o _ e => h a o e
theorem Bag.same {b l : Addr} {H H' : Hp} (s : Same H H') (h : Bag H b l) : Bag H' b l := by
  obtain ⟨ns, i, r, m, n, h1, h2, h3⟩ := h
  exact ⟨ns, i, r, m, n, s _ _ h1, s _ _ h2, h3⟩
theorem Bag.new {b l p : Addr} {H : Hp} {o : HO} (h : Bag H b l) (hp : H p = none) : Bag (upd H p o) b l := h.same (Same.new hp)
theorem Bag.ne {b l p : Addr} {H : Hp} (h : Bag H b l) (hp : H p = none) : p ≠ b := by
  obtain ⟨ns, i, r, m, n, h1, _⟩ := h
  exact (ne_of_none h1 hp).symm
theorem Bag.nel {b l p : Addr} {H : Hp} (h : Bag H b l) (hp : H p = none) : p ≠ l := by
  obtain ⟨ns, i, r, m, n, _, h1, _⟩ := h
  exact (ne_of_none h1 hp).symm
/-- a list of one's own is written -/
theorem Bag.put {b l p : Addr} {H : Hp} {o : HO} (h : Bag H b l) (n : p ≠ b) (nl : p ≠ l) : Bag (upd H p o) b l := by
  obtain ⟨ns, i, r, m, c, h1, h2, h3⟩ := h
  exact ⟨ns, i, r, m, c, by rw [upd_ne n.symm]; exact h1, by rw [upd_ne nl.symm]; exact h2, h3⟩
/-- what was new is new: the bag stands behind, too -/
theorem Stp.free {b l p : Addr} {H H' : Hp} (s : Stp b H H') (hb : Bag H' b l) (hp : H' p = none) : H p = none := by
  cases q : H p with
  | none => rfl
  | some o =>
    rw [s p o (hb.ne hp) q] at hp
    cases hp
theorem Stp.sqL {K : PySem.W.Frag} {b a : Addr} {H H' : Hp} {xs : List V} (s : Stp b H H') (n : a ≠ b) (h : SqL K H a xs) : SqL K H' a xs := by
  rcases h with (h | ⟨o, h⟩) | h
  · exact .inl (.inl (s _ _ n h))
  · exact .inl (.inr ⟨o, s _ _ n h⟩)
  · exact .inr h
theorem Stp.sqT {K : PySem.W.Frag} {b a : Addr} {H H' : Hp} {xs : List V} (s : Stp b H H') (n : a ≠ b) (h : SqT K H a xs) : SqT K H' a xs := by
  rcases h with (h | ⟨o, h⟩) | h
  · exact .inl (.inl (s _ _ n h))
  · exact .inl (.inr ⟨o, s _ _ n h⟩)
  · exact .inr h
/-- new: not tracked ahead, another one than the bag -/
theorem cut_ints (ns : List Int) (k : Nat) : cutV (ns.map V.int) none (some (k : Int)) = (ns.take k).map V.int := by
  unfold cutV
  rw [HT.sIx_none, HT.sIx_nat, List.drop_zero, Nat.sub_zero, List.map_take]
  by_cases h : k ≤ (ns.map V.int).length
  · rw [Nat.min_eq_left h]
  · rw [Nat.min_eq_right (by omega), List.take_length, List.take_of_length_le (by omega)]
theorem int_of_map {ns : List Int} {i : Nat} {y : V} (hi : (ns.map V.int)[i]? = some y) : ∃ u, y = V.int u := by
  rw [List.getElem?_map] at hi
  cases e : ns[i]? with
  | none => rw [e] at hi; cases hi
  | some u => rw [e] at hi; exact ⟨u, (Option.some.inj hi).symm⟩
theorem mem_at {α : Type} {xs : List α} {d : Int} (h0 : 0 ≤ d) (h1 : d < xs.length) : ∃ v, atI xs d = some v ∧ v ∈ xs := by
  obtain ⟨j, rfl⟩ : ∃ j : Nat, d = (j : Int) := ⟨d.toNat, by omega⟩
  have hj : j < xs.length := by omega
  exact ⟨xs[j], atI_nat (List.getElem?_eq_getElem hj), List.getElem_mem hj⟩

section
variable {P : Program} {w : World} {K : PySem.W.Frag} {mg : Str → Option Value} {base : Heap} {Z : Fs}
/-! ### _law_bag -/
def sp_law_bag (K : PySem.W.Frag) : Sp := fun vs H Q _ => ∃ (a : Addr) (ns : List Int), vs = [.ref a] ∧ SqL K H a (ns.map V.int) ∧ ns.length ≤ 63 ∧ ∀ (H' : Hp) (b l : Addr), Same H H' → H b = none → H l = none → Bag H' b l → Q (.ref b) H'
theorem ok_law_bag (T : Txt K w mg Z) : FnOk P w K mg base CX0 1 Z.a_law_bag Z.d_law_bag ["_law_script"] (sp_law_bag K) := by
  refine T.F_law_bag.ok sc_law_bag (fun vs H Q E h => ?_) (fun cdv A outer s H vs Q E hr h => ?_)
  · obtain ⟨a, ns, rfl, _⟩ := h
    rfl
  · obtain ⟨a, ns, rfl, hS, hlen, k⟩ := h
    refine ⟨_, (pss_cons (ps_set (i := 1) sc_law_bag.nd rfl (Or.inl rfl) pe_int)
      (pss_cons (ps_for PassesOwn.never rfl (pi_list (pe_slice sl_list (pv 0) po_none (po_some pe_int))) (pg_name (i := 2) sc_law_bag.nd rfl (Or.inl rfl)) (pss_one (ps_set (i := 1) sc_law_bag.nd rfl (Or.inl rfl) (pe_op op_mod (pe_callTy call_int1 (by rfl) T.n_int boot_int (pa_cons (pe_op op_add (pe_op op_add (pe_op op_mul (pv 1) pe_int) (pe_op op_mul (pe_op op_mod (pe_callTy call_int1 (by rfl) T.n_int boot_int (pa_cons (pv 2) pa_nil)) pe_int) pe_int)) pe_int) pa_nil)) pe_int))))
      (pss_one (ps_ret (pe_lst (pa_cons (pe_callTy call_list_of (by rfl) T.n_list boot_list (pa_cons (pe_slice sl_list (pv 0) po_none (po_some pe_int)) pa_nil)) (pa_cons pe_int (pa_cons pe_int (pa_cons (pv 1) (pa_cons pe_int pa_nil)))))))))), ?_⟩
    refine ⟨.ref a, rfl, 63, rfl, a, ns.map V.int, rfl, hS, fun p hp => ?_⟩
    have s1 : Same H (upd H p (.lst (cutV (ns.map V.int) none (some 63)))) := Same.new hp
    have ec : cutV (ns.map V.int) none (some 63) = (ns.take 63).map V.int := cut_ints ns 63
    refine ⟨p, rfl, ⟨_, SqL.of upd_same⟩, for_list (K := K) (a := p) (xs := cutV (ns.map V.int) none (some 63)) (fun i σ H' => ∃ (m : Int) (v : Option V), σ = [some (.ref a), some (.int m), v] ∧ Same (upd H p (.lst (cutV (ns.map V.int) none (some 63)))) H' ∧ 0 ≤ m ∧ m < 2147483579)
      ⟨12026, none, rfl, Same.refl _, by decide, by decide⟩ (fun i σ H' _ ⟨_, _, _, s2, _⟩ => SqL.of (s2 _ _ upd_same)) ?_ ?_⟩
    · rintro i y σ H' hi ⟨m, v, rfl, s2, h0, h1⟩
      rw [ec] at hi
      obtain ⟨u, rfl⟩ := int_of_map hi
      refine ⟨_, rfl, _, _, rfl, rfl, .inr ⟨by decide, by decide⟩, _, rfl, .inl ⟨_, rfl, _, _, rfl, rfl, (by show (0 : Int) < 1000639; decide), _, _, rfl, rfl, .inr ⟨by decide, by decide⟩, _, _, rfl, rfl, _, _, rfl, rfl, .inl ⟨_, rfl, _, _, rfl, rfl, (by show (0 : Int) < 2147483579; decide), ?_⟩⟩⟩
      exact ⟨_, _, rfl, s2, Int.emod_nonneg _ (by decide), Int.emod_lt_of_pos _ (by decide)⟩
    · rintro σ H' ⟨m, v, rfl, s2, h0, h1⟩
      refine ⟨.ref a, rfl, 63, rfl, a, ns.map V.int, rfl, (s1.trans s2).seq hS, fun q hq => ⟨q, _, rfl, .inl (SqL.of upd_same), fun l hl => ⟨_, rfl, (by show 5 ≤ sizeLine; decide), fun b hb => ?_⟩⟩⟩
      have nlb : l ≠ b := fun e => by
        rw [← e, upd_same] at hb
        cases hb
      have s3 := ((s1.trans s2).trans (Same.new (o := .lst (cutV (ns.map V.int) none (some 63))) hq)).trans (Same.new (o := .lst (cutV (ns.map V.int) none (some 63))) hl)
      refine k _ b l (s3.trans (Same.new hb)) (s3.free hb) (((s1.trans s2).trans (Same.new (o := .lst (cutV (ns.map V.int) none (some 63))) hq)).free hl) ⟨ns.take 63, 0, 0, m, 0, upd_same, ?_, nlb, ?_, by decide, h0, by omega⟩
      · rw [upd_ne nlb, upd_same, ec]
      · rw [List.length_take]
        omega
end

section
variable {P : Program} {w : World} {K : PySem.W.Frag} {mg : Str → Option Value} {base : Heap} {Z : Fs}
/-! ### _law_draw -/
def sp_law_draw : Sp := fun vs H Q _ => ∃ (b l : Addr) (d : Int), vs = [.ref b, .int d] ∧ Bag H b l ∧ 0 < d ∧ d < 1073741824 ∧ ∀ (H' : Hp) (v : Int), Stp b H H' → Bag H' b l → 0 ≤ v → v < d → Q (.int v) H'
theorem ok_law_draw (T : Txt K w mg Z) : FnOk P w K mg base CX0 1 Z.a_law_draw Z.d_law_draw ["_law_bag_here", "_law_sides"] sp_law_draw := by
  refine T.F_law_draw.ok sc_law_draw (fun vs H Q E h => ?_) (fun cdv A outer s H vs Q E hr h => ?_)
  · obtain ⟨b, l, d, rfl, _⟩ := h
    rfl
  · obtain ⟨b, l, d, rfl, ⟨ns, i, r, m, n, hb, hl, nlb, hlen, r0, m0, m1⟩, d0, d1, k⟩ := h
    refine ⟨_, (pss_cons (ps_asg (pe_op op_add (pe_ix ix_list (pv 0) pe_int (fun _ _ => rfl)) pe_int) (pg_sub (pv 0) pe_int set_list))
      (C8.pss_cut (ps_if (PW.pt (pw_and (pt_cmpR op_eq (pe_ix ix_list (pv 0) pe_int (fun _ _ => rfl)) pe_int (nomark _)) (pw_and1 (pt_cmpR op_lt (pe_ix ix_list (pv 0) pe_int (fun _ _ => rfl)) (pe_callB call_len (by rfl) T.n_len boot_len (pa_cons (pe_ix ix_list (pv 0) pe_int (fun _ _ => rfl)) pa_nil)) (nomark _))))) (pss_cons (ps_set (i := 2) sc_law_draw.nd rfl (Or.inl rfl) (pe_callTy call_int1 (by rfl) T.n_int boot_int (pa_cons (pe_ix ix_list (pe_ix ix_list (pv 0) pe_int (fun _ _ => rfl)) (pe_ix ix_list (pv 0) pe_int (fun _ _ => rfl)) (fun _ _ => rfl)) pa_nil)))
      (pss_cons (ps_asg (pe_op op_add (pe_ix ix_list (pv 0) pe_int (fun _ _ => rfl)) pe_int) (pg_sub (pv 0) pe_int set_list))
      (pss_one (ps_if (pt_cmpR op_ge (pe_callB call_abs (by rfl) T.n_abs boot_abs (pa_cons (pv 2) pa_nil)) (pe_op op_pow pe_int pe_int) (nomark _)) (pss_one (ps_asg (pe_callB call_abs (by rfl) T.n_abs boot_abs (pa_cons (pv 2) pa_nil)) (pg_sub (pv 0) pe_int set_list))) (pss_one (ps_asg (pe_op op_mod (pe_callTy call_int1 (by rfl) T.n_int boot_int (pa_cons (pe_op op_add (pe_op op_add (pe_op op_mul (pe_ix ix_list (pv 0) pe_int (fun _ _ => rfl)) pe_int) (pe_op op_mul (pe_op op_mod (pe_callTy call_int1 (by rfl) T.n_int boot_int (pa_cons (pv 2) pa_nil)) pe_int) pe_int)) pe_int) pa_nil)) pe_int) (pg_sub (pv 0) pe_int set_list))))))) pss_nil)
      (pss_cons (ps_if (pt_cmpR op_gt (pe_ix ix_list (pv 0) pe_int (fun _ _ => rfl)) pe_int (nomark _)) (pss_cons (ps_set (i := 3) sc_law_draw.nd rfl (Or.inl rfl) (pe_op op_mod (pe_callTy call_int1 (by rfl) T.n_int boot_int (pa_cons (pe_ix ix_list (pv 0) pe_int (fun _ _ => rfl)) pa_nil)) (pv 1)))
      (pss_cons (ps_asg (pe_op op_fdiv (pe_ix ix_list (pv 0) pe_int (fun _ _ => rfl)) (pv 1)) (pg_sub (pv 0) pe_int set_list))
      (pss_one (ps_ret (pv 3))))) pss_nil)
      (pss_cons (ps_set (i := 4) sc_law_draw.nd rfl (Or.inl rfl) (pe_callTy call_int1 (by rfl) T.n_int boot_int (pa_cons (pe_ix ix_list (pv 0) pe_int (fun _ _ => rfl)) pa_nil)))
      (pss_cons (ps_asg (pe_op op_mod (pe_callTy call_int1 (by rfl) T.n_int boot_int (pa_cons (pe_op op_add (pe_op op_add (pe_op op_add (pe_op op_mul (pe_op op_mul (pv 4) (pv 4)) pe_int) (pe_op op_mul (pv 4) pe_int)) (pe_op op_mul (pe_ix ix_list (pv 0) pe_int (fun _ _ => rfl)) pe_int)) pe_int) pa_nil)) pe_int) (pg_sub (pv 0) pe_int set_list))
      (pss_one (ps_ret (pe_op op_mod (pe_callTy call_int1 (by rfl) T.n_int boot_int (pa_cons (pe_op op_add (pe_op op_fdiv (pe_ix ix_list (pv 0) pe_int (fun _ _ => rfl)) pe_int) (pe_op op_mul (pe_op op_mod (pe_callTy call_int1 (by rfl) T.n_int boot_int (pa_cons (pe_ix ix_list (pv 0) pe_int (fun _ _ => rfl)) pa_nil)) pe_int) pe_int)) pa_nil)) (pv 1))))))))), ?_⟩
    -- bag[4] = bag[4] + 1
    refine ⟨.ref b, rfl, b, _, 4, .int n, rfl, rfl, SqL.of hb, atI_nat (j := 4) rfl, n, 1, rfl, rfl, .ref b, rfl, b, _, 4, 4, rfl, rfl, hb, rfl, ?_⟩
    refine ⟨fun σ' H' => ∃ (y2 : Option V), σ' = [some (.ref b), some (.int d), y2, none, none] ∧ Stp b H H' ∧ Bag H' b l, ?_, ?_⟩
    · have hb1 : (upd H b (.lst ([V.ref l, .int i, .int r, .int m, .int n].set 4 (.int (n + 1))))) b = some (.lst [.ref l, .int i, .int r, .int m, .int (n + 1)]) := upd_same
      have hl1 : (upd H b (.lst ([V.ref l, .int i, .int r, .int m, .int n].set 4 (.int (n + 1))))) l = some (.lst (ns.map V.int)) := by
        rw [upd_ne nlb]
        exact hl
      have s1 : Stp b H (upd H b (.lst ([V.ref l, .int i, .int r, .int m, .int n].set 4 (.int (n + 1))))) := Stp.put
      generalize upd H b (.lst ([V.ref l, .int i, .int r, .int m, .int n].set 4 (.int (n + 1)))) = H1 at hb1 hl1 s1 ⊢
      have B1 : Bag H1 b l := ⟨ns, i, r, m, n + 1, hb1, hl1, nlb, hlen, r0, m0, m1⟩
      -- if bag[2] == 0 and bag[1] < len(bag[0])
      refine ⟨.ref b, rfl, b, _, 2, .int r, rfl, rfl, SqL.of hb1, atI_nat (j := 2) rfl, rfl, _, rfl, ?_⟩
      refine ite2 (fun _ => ?_) (fun _ => ?_)
      · refine ⟨.ref b, rfl, b, _, 1, .int i, rfl, rfl, SqL.of hb1, atI_nat (j := 1) rfl, .ref b, rfl, b, _, 0, .ref l, rfl, rfl, SqL.of hb1, atI_nat (j := 0) rfl, .ref l, ns.length, rfl, .inl ⟨_, SqL.of hl1, by rw [List.length_map]⟩, _, _, rfl, rfl, _, rfl, ?_⟩
        refine ite2 (fun hi => ?_) (fun _ => ?_)
        · have hi' : i < ns.length := by
            have q := of_decide_eq_true hi
            omega
          have gi : atI (ns.map V.int) (i : Int) = some (.int ns[i]) := atI_nat (by rw [List.getElem?_map, List.getElem?_eq_getElem hi']; rfl)
          -- piled = int(bag[0][bag[1]])
          refine ⟨.ref b, rfl, b, _, 0, .ref l, rfl, rfl, SqL.of hb1, atI_nat (j := 0) rfl, .ref b, rfl, b, _, 1, .int i, rfl, rfl, SqL.of hb1, atI_nat (j := 1) rfl, l, _, _, _, rfl, rfl, SqL.of hl1, gi, .inl ⟨_, rfl, ?_⟩⟩
          -- bag[1] = bag[1] + 1
          refine ⟨.ref b, rfl, b, _, 1, .int i, rfl, rfl, SqL.of hb1, atI_nat (j := 1) rfl, i, 1, rfl, rfl, .ref b, rfl, b, _, 1, 1, rfl, rfl, hb1, rfl, ?_⟩
          have hb2 : (upd H1 b (.lst ([V.ref l, .int i, .int r, .int m, .int (n + 1)].set 1 (.int (i + 1))))) b = some (.lst [.ref l, .int ((i + 1 : Nat) : Int), .int r, .int m, .int (n + 1)]) := upd_same
          have hl2 : (upd H1 b (.lst ([V.ref l, .int i, .int r, .int m, .int (n + 1)].set 1 (.int (i + 1))))) l = some (.lst (ns.map V.int)) := by
            rw [upd_ne nlb]
            exact hl1
          have s2 : Stp b H (upd H1 b (.lst ([V.ref l, .int i, .int r, .int m, .int (n + 1)].set 1 (.int (i + 1))))) := s1.trans Stp.put
          generalize upd H1 b (.lst ([V.ref l, .int i, .int r, .int m, .int (n + 1)].set 1 (.int (i + 1)))) = H2 at hb2 hl2 s2 ⊢
          -- if abs(piled) >= 10 ** 18
          refine ⟨.int ns[i], rfl, _, rfl, 10, 18, rfl, rfl, ⟨by decide, by decide, by decide⟩, _, _, rfl, rfl, _, rfl, ?_⟩
          refine ite2 (fun _ => ?_) (fun _ => ?_)
          · refine ⟨.int ns[i], rfl, _, rfl, .ref b, rfl, b, _, 2, 2, rfl, rfl, hb2, rfl, ?_⟩
            refine ⟨_, rfl, s2.trans Stp.put, ns, i + 1, _, m, n + 1, upd_same, ?_, nlb, hlen, ?_, m0, m1⟩
            · rw [upd_ne nlb]
              exact hl2
            · show 0 ≤ (if ns[i] < 0 then -ns[i] else ns[i])
              split <;> omega
          · refine ⟨.ref b, rfl, b, _, 3, .int m, rfl, rfl, SqL.of hb2, atI_nat (j := 3) rfl, _, _, rfl, rfl, .inr ⟨by decide, by decide⟩, .int ns[i], rfl, .inl ⟨_, rfl, _, _, rfl, rfl, (by show (0 : Int) < 1000639; decide), _, _, rfl, rfl, .inr ⟨by decide, by decide⟩, _, _, rfl, rfl, _, _, rfl, rfl, .inl ⟨_, rfl, _, _, rfl, rfl, (by show (0 : Int) < 2147483587; decide), .ref b, rfl, b, _, 3, 3, rfl, rfl, hb2, rfl, ?_⟩⟩⟩
            refine ⟨_, rfl, s2.trans Stp.put, ns, i + 1, r, _, n + 1, upd_same, ?_, nlb, hlen, r0, Int.emod_nonneg _ (by decide), Int.lt_trans (Int.emod_lt_of_pos _ (by decide)) (by decide)⟩
            rw [upd_ne nlb]
            exact hl2
        · exact ⟨_, rfl, s1, B1⟩
      · exact ⟨_, rfl, s1, B1⟩
    · rintro σ' H1 ⟨y2, rfl, s1, ns, i, r, m, n, hb1, hl1, nlb, hlen, r0, m0, m1⟩
      -- if bag[2] > 0
      refine ⟨.ref b, rfl, b, _, 2, .int r, rfl, rfl, SqL.of hb1, atI_nat (j := 2) rfl, _, _, rfl, rfl, _, rfl, ?_⟩
      refine ite2 (fun _ => ?_) (fun _ => ?_)
      · refine ⟨.ref b, rfl, b, _, 2, .int r, rfl, rfl, SqL.of hb1, atI_nat (j := 2) rfl, .inl ⟨_, rfl, .int d, rfl, _, _, rfl, rfl, d0, ?_⟩⟩
        refine ⟨.ref b, rfl, b, _, 2, .int r, rfl, rfl, SqL.of hb1, atI_nat (j := 2) rfl, .int d, rfl, _, _, rfl, rfl, ⟨d0, d1⟩, .ref b, rfl, b, _, 2, 2, rfl, rfl, hb1, rfl, ?_⟩
        refine ⟨_, rfl, k _ _ (s1.trans Stp.put) ⟨ns, i, _, m, n, upd_same, ?_, nlb, hlen, Int.ediv_nonneg r0 (Int.le_of_lt d0), m0, m1⟩ (Int.emod_nonneg _ (by omega)) (Int.emod_lt_of_pos _ d0)⟩
        rw [upd_ne nlb]
        exact hl1
      · -- seed
        refine ⟨.ref b, rfl, b, _, 3, .int m, rfl, rfl, SqL.of hb1, atI_nat (j := 3) rfl, .inl ⟨_, rfl, ?_⟩⟩
        refine ⟨.int m, rfl, .int m, rfl, _, _, rfl, rfl, .inl ⟨by omega, by omega⟩, _, _, rfl, rfl, .inr ⟨by decide, by decide⟩, .int m, rfl, _, _, rfl, rfl, .inr ⟨by decide, by decide⟩, _, _, rfl, rfl,
          .ref b, rfl, b, _, 4, .int n, rfl, rfl, SqL.of hb1, atI_nat (j := 4) rfl, _, _, rfl, rfl, .inr ⟨by decide, by decide⟩, _, _, rfl, rfl, _, _, rfl, rfl, .inl ⟨_, rfl, _, _, rfl, rfl, (by show (0 : Int) < 2147483549; decide), .ref b, rfl, b, _, 3, 3, rfl, rfl, hb1, rfl, ?_⟩⟩
        have hm0 := Int.emod_nonneg (m * m * 19 + m * 47111 + n * 110323 + 60089) (show (2147483549 : Int) ≠ 0 by decide)
        have hm1 := Int.emod_lt_of_pos (m * m * 19 + m * 47111 + n * 110323 + 60089) (show (0 : Int) < 2147483549 by decide)
        have hb2 : (upd H1 b (.lst ([V.ref l, .int i, .int r, .int m, .int n].set 3 (.int ((m * m * 19 + m * 47111 + n * 110323 + 60089) % 2147483549))))) b = some (.lst [.ref l, .int i, .int r, .int ((m * m * 19 + m * 47111 + n * 110323 + 60089) % 2147483549), .int n]) := upd_same
        have hl2 : (upd H1 b (.lst ([V.ref l, .int i, .int r, .int m, .int n].set 3 (.int ((m * m * 19 + m * 47111 + n * 110323 + 60089) % 2147483549))))) l = some (.lst (ns.map V.int)) := by
          rw [upd_ne nlb]
          exact hl1
        have s2 : Stp b H (upd H1 b (.lst ([V.ref l, .int i, .int r, .int m, .int n].set 3 (.int ((m * m * 19 + m * 47111 + n * 110323 + 60089) % 2147483549))))) := s1.trans Stp.put
        generalize upd H1 b (.lst ([V.ref l, .int i, .int r, .int m, .int n].set 3 (.int ((m * m * 19 + m * 47111 + n * 110323 + 60089) % 2147483549)))) = H2 at hb2 hl2 s2 ⊢
        generalize (m * m * 19 + m * 47111 + n * 110323 + 60089) % 2147483549 = m2 at hb2 hm0 hm1 ⊢
        refine ⟨.ref b, rfl, b, _, 3, .int m2, rfl, rfl, SqL.of hb2, atI_nat (j := 3) rfl, _, _, rfl, rfl, ⟨by decide, by decide⟩, .ref b, rfl, b, _, 3, .int m2, rfl, rfl, SqL.of hb2, atI_nat (j := 3) rfl, .inl ⟨_, rfl, _, _, rfl, rfl, (by show (0 : Int) < 8017; decide), _, _, rfl, rfl, .inr ⟨by decide, by decide⟩, _, _, rfl, rfl, .inl ⟨_, rfl, .int d, rfl, _, _, rfl, rfl, d0, ?_⟩⟩⟩
        exact k _ _ s2 ⟨ns, i, r, m2, n, hb2, hl2, nlb, hlen, r0, hm0, by omega⟩ (Int.emod_nonneg _ (by omega)) (Int.emod_lt_of_pos _ d0)
/-! ### _law_of -/
/-- what is drawn from: a text, or a list that is not the bag; P what holds of each thing -/
def Thg (K : PySem.W.Frag) (H : Hp) (b : Addr) (t : V) (Pt : V → Prop) : Prop := (∃ z : Str, t = .str z ∧ 0 < z.cps.size ∧ z.cps.size ≤ 100000 ∧ ∀ c ∈ z.cps.toList, Pt (.str ⟨#[c]⟩)) ∨ ∃ (a : Addr) (xs : List V), t = .ref a ∧ a ≠ b ∧ SqL K H a xs ∧ 0 < xs.length ∧ xs.length ≤ 100000 ∧ ∀ v ∈ xs, Pt v
def sp_law_of (K : PySem.W.Frag) : Sp := fun vs H Q _ => ∃ (b l : Addr) (t : V) (Pt : V → Prop), vs = [.ref b, t] ∧ Bag H b l ∧ Thg K H b t Pt ∧ ∀ (H' : Hp) (v : V), Stp b H H' → Bag H' b l → Pt v → Q v H'
theorem ok_law_of (T : Txt K w mg Z) : FnOk P w K mg base CX0 2 Z.a_law_of Z.d_law_of ["_law_bag_here", "_law_things"] (sp_law_of K) := by
  have G_law_draw : FnOk P w K mg base CX0 1 Z.a_law_draw Z.d_law_draw ["_law_bag_here", "_law_sides"] sp_law_draw := ok_law_draw T
  refine T.F_law_of.ok sc_law_of (fun vs H Q E h => ?_) (fun cdv A outer s H vs Q E hr h => ?_)
  · obtain ⟨b, l, t, Pt, rfl, _⟩ := h
    rfl
  · obtain ⟨b, l, t, Pt, rfl, B, ht, k⟩ := h
    refine ⟨_, (pss_one (ps_ret (pe_ix ix_seq (pv 1) (pe_call G_law_draw (hr.mono (by omega)) (by rfl) T.m_law_draw T.F_law_draw.kp T.b_law_draw .nil pass0 (pa_cons (pv 0) (pa_cons (pe_callB call_len (by rfl) T.n_len boot_len (pa_cons (pv 1) pa_nil)) pa_nil))) (fun _ _ => rfl)))), ?_⟩
    rcases ht with ⟨z, rfl, z0, z1, hz⟩ | ⟨a, xs, rfl, nab, hx, x0, x1, hv⟩
    · refine ⟨_, rfl, .ref b, rfl, .str z, rfl, .str z, z.cps.size, rfl, ⟨Nat.le_trans z1 (by decide), rfl⟩, b, l, _, rfl, B, by omega, by omega, fun H' v s1 B1 v0 v1 => ?_⟩
      obtain ⟨c, hc, hm⟩ := mem_at (xs := z.cps.toList) v0 (by simpa using v1)
      exact .inr (.inr ⟨z, v, c, rfl, rfl, Nat.le_trans z1 (by decide), hc, k _ _ s1 B1 (hz c hm)⟩)
    · refine ⟨_, rfl, .ref b, rfl, .ref a, rfl, .ref a, xs.length, rfl, .inl ⟨_, hx, rfl⟩, b, l, _, rfl, B, by omega, by omega, fun H' v s1 B1 v0 v1 => ?_⟩
      obtain ⟨c, hc, hm⟩ := mem_at (xs := xs) v0 v1
      exact .inl ⟨a, xs, v, c, rfl, rfl, s1.sqL nab hx, hc, k _ _ s1 B1 (hv c hm)⟩
end

theorem iteN {p A B : Prop} [Decidable p] (h : ¬ p) (q : B) : if decide p = true then A else B := by
  rw [decide_eq_false h]
  exact iteF q
theorem iteY {p A B : Prop} [Decidable p] (h : p) (q : A) : if decide p = true then A else B := by
  rw [decide_eq_true h]
  exact iteT q
theorem Same.put {H H' : Hp} {p : Addr} {o : HO} (s : Same H H') (h : H p = none) : Same H (upd H' p o) := fun a u e => by
  rw [upd_ne (ne_of_none e h)]
  exact s a u e
theorem Same.sqT {K : PySem.W.Frag} {H H' : Hp} {a : Addr} {xs : List V} (e : Same H H') (h : SqT K H a xs) : SqT K H' a xs := by
  rcases h with (h | ⟨o, h⟩) | h
  · exact .inl (.inl (e _ _ h))
  · exact .inl (.inr ⟨o, e _ _ h⟩)
  · exact .inr h
theorem tyx_l {K : PySem.W.Frag} {H : Hp} {a : Addr} {xs : List V} (h : SqL K H a xs) : TyX K H (.ref a) (.type "list") := by
  rcases h with (h | ⟨o, h⟩) | ⟨o, its, n, h, hc, _⟩
  · exact .base (.lst h)
  · exact .base (.frz h)
  · exact .kList h hc
theorem tyx_t {K : PySem.W.Frag} {H : Hp} {a : Addr} {xs : List V} (h : SqT K H a xs) : TyX K H (.ref a) (.type "tuple") := by
  rcases h with (h | ⟨o, h⟩) | ⟨o, its, n, h, hc, _⟩
  · exact .base (.tup h)
  · exact .fTuple h
  · exact .kTuple h hc
/-- the name of a flat value's type -/
def flatT : V → String
  | .bl _ => "bool"
  | .int _ => "int"
  | .str _ => "str"
  | _ => "NoneType"
theorem tyx_f {K : PySem.W.Frag} {H : Hp} {x : V} (h : flatV x = true) : TyX K H x (.type (flatT x)) := by
  cases x with
  | non => exact .base .non
  | bl b => exact .base (.bl b)
  | int i => exact .base (.int i)
  | str z => exact .base (.str z)
  | _ => cases h
theorem walk_zipT {K : PySem.W.Frag} {a b : Addr} {xs ys : List V} {n : Nat} (hn : n = min xs.length ys.length) : Walk (RZ.ItzT K a b) n (fun H => SqT K H a xs ∧ SqT K H b ys) (YPair (fun i => xs[i]?) (fun i => ys[i]?)) := by
  subst hn
  refine ⟨fun i _ hi q => ?_, fun _ q => ⟨xs, ys, q.1, q.2, by omega⟩, fun i H v H' _ q y => ?_⟩
  · have h1 : i < xs.length := by omega
    have h2 : i < ys.length := by omega
    exact ⟨xs, ys, xs[i], ys[i], q.1, q.2, by simp [h1], by simp [h2]⟩
  · obtain ⟨T, x, z, h1, h2, h3, h4, h5⟩ := y
    exact ⟨T, x, z, h1, h2, h3, h4 xs q.1, h5 ys q.2⟩
theorem all_rep (n : Nat) : (List.replicate n true).all id = true := by
  rw [List.all_eq_true]
  intro x hx
  rw [(List.mem_replicate.mp hx).2]
  rfl
/-- two values that are the same data, n deep at most -/
def Eqd (K : PySem.W.Frag) (H : Hp) : Nat → V → V → Prop
  | 0, x, y => flatV x = true ∧ x = y
  | n + 1, x, y => (flatV x = true ∧ x = y) ∨ ∃ (a b : Addr) (xs ys : List V), x = .ref a ∧ y = .ref b ∧ ((SqL K H a xs ∧ SqL K H b ys) ∨ (SqT K H a xs ∧ SqT K H b ys)) ∧ xs.length = ys.length ∧ xs.length ≤ 100000 ∧ ∀ (i : Nat) (u v : V), xs[i]? = some u → ys[i]? = some v → Eqd K H n u v
theorem Eqd.same {K : PySem.W.Frag} {H H' : Hp} (s : Same H H') : ∀ {n : Nat} {x y : V}, Eqd K H n x y → Eqd K H' n x y
  | 0, _, _, h => h
  | n + 1, _, _, .inl h => .inl h
  | n + 1, _, _, .inr ⟨a, b, xs, ys, e1, e2, h, hl, hz, hi⟩ => .inr ⟨a, b, xs, ys, e1, e2, by
      rcases h with ⟨h1, h2⟩ | ⟨h1, h2⟩
      · exact .inl ⟨s.seq h1, s.seq h2⟩
      · exact .inr ⟨Same.sqT s h1, Same.sqT s h2⟩, hl, hz, fun i u v hu hv => (hi i u v hu hv).same s⟩
theorem Eqd.flat {K : PySem.W.Frag} {H : Hp} {n : Nat} {x : V} (h : flatV x = true) : Eqd K H n x x := by
  cases n with
  | zero => exact ⟨h, rfl⟩
  | succ n => exact .inl ⟨h, rfl⟩
theorem kitLT {K : PySem.W.Frag} {T : String} (h1 : kitB T "list" = some false) (h2 : kitB T "tuple" = some false) : PySem.W.kitAny K (.type T) [.type "list", .type "tuple"] = some false :=
  kitAny_cons (b := false) (kit_ty h1) (fun _ => kitAny_cons (b := false) (kit_ty h2) (fun _ => kitAny_nil) fun e => nomatch e) fun e => nomatch e
theorem kitLl {K : PySem.W.Frag} : PySem.W.kitAny K (.type "list") [.type "list", .type "tuple"] = some true :=
  kitAny_cons (b := true) (kit_ty (by decide +kernel)) (fun e => nomatch e) fun _ => rfl
theorem kitLt {K : PySem.W.Frag} : PySem.W.kitAny K (.type "tuple") [.type "list", .type "tuple"] = some true :=
  kitAny_cons (b := false) (kit_ty (by decide +kernel)) (fun _ => kitAny_cons (b := true) (kit_ty (by decide +kernel)) (fun e => nomatch e) fun _ => rfl) fun e => nomatch e

section
variable {P : Program} {w : World} {K : PySem.W.Frag} {mg : Str → Option Value} {base : Heap} {Z : Fs}
/-! ### _law_same -/
def sp_law_same (K : PySem.W.Frag) (n : Nat) : Sp := fun vs H Q _ => ∃ x y : V, vs = [x, y] ∧ Eqd K H n x y ∧ ∀ H' : Hp, Same H H' → Q (.bl true) H'
theorem ok_law_same (T : Txt K w mg Z) : ∀ n : Nat, FnOk P w K mg base CX0 (n + 1) Z.a_law_same Z.d_law_same ["_law_found", "_law_due"] (sp_law_same K n)
  | 0 => by
    refine T.F_law_same.ok sc_law_same (fun vs H Q E h => ?_) (fun cdv A outer s H vs Q E hr h => ?_)
    · obtain ⟨x, y, rfl, _⟩ := h
      rfl
    · obtain ⟨x, y, rfl, ⟨hf, rfl⟩, k⟩ := h
      refine ⟨_, (pss_cons (ps_if (PW.pt (pw_or (pt_cmp (pc_isN (pv 1))) (pw_or1 (pt_cmp (pc_isN (pv 0)))))) (pss_one (ps_ret (pe_and (pe_cmp (pc_isN (pv 1)) rfl) (pe_one (pe_cmp (pc_isN (pv 0)) rfl))))) pss_nil)
      (pss_cons (ps_if (pt_val (pe_callB call_isiT (by rfl) T.n_isinstance boot_isinstance (pa_cons (pv 1) (pa_cons (pe_tup (pa_cons (pe_bltn (v := .ty "list") (by rfl) T.n_list boot_list rfl) (pa_cons (pe_bltn (v := .ty "tuple") (by rfl) T.n_tuple boot_tuple rfl) pa_nil))) pa_nil)))) pss_never pss_nil)
      (pss_cons (ps_if (PW.pt (pw_or (pt_cmpR op_ne (pe_callB call_isi (by rfl) T.n_isinstance boot_isinstance (pa_cons (pv 1) (pa_cons (pe_bltn (v := .ty "bool") (by rfl) T.n_bool boot_bool rfl) pa_nil))) (pe_callB call_isi (by rfl) T.n_isinstance boot_isinstance (pa_cons (pv 0) (pa_cons (pe_bltn (v := .ty "bool") (by rfl) T.n_bool boot_bool rfl) pa_nil))) (nomark _)) (pw_or1 (pt_cmpR op_ne (pe_callB call_isi (by rfl) T.n_isinstance boot_isinstance (pa_cons (pv 1) (pa_cons (pe_bltn (v := .ty "int") (by rfl) T.n_int boot_int rfl) pa_nil))) (pe_callB call_isi (by rfl) T.n_isinstance boot_isinstance (pa_cons (pv 0) (pa_cons (pe_bltn (v := .ty "int") (by rfl) T.n_int boot_int rfl) pa_nil))) (nomark _))))) (pss_one (ps_ret pe_bl)) pss_nil)
      (pss_one (ps_ret (pe_and (pe_cmpR op_eq (pe_callB call_isi (by rfl) T.n_isinstance boot_isinstance (pa_cons (pv 1) (pa_cons (pe_bltn (v := .ty "str") (by rfl) T.n_str boot_str rfl) pa_nil))) (pe_callB call_isi (by rfl) T.n_isinstance boot_isinstance (pa_cons (pv 0) (pa_cons (pe_bltn (v := .ty "str") (by rfl) T.n_str boot_str rfl) pa_nil))) (nomark _)) (pe_one (pe_cmpR op_eq (pv 0) (pv 1) (nomark _))))))))), ?_⟩
      cases x with
      | non => exact ⟨.non, rfl, _, rfl, iteY rfl ⟨.non, rfl, _, rfl, iteY rfl ⟨.non, rfl, k _ (Same.refl _)⟩⟩⟩
      | bl v =>
        refine ⟨.bl v, rfl, _, rfl, iteN (fun e => nomatch e) ⟨.bl v, rfl, _, rfl, iteN (fun e => nomatch e) ?_⟩⟩
        refine ⟨.bl v, rfl, (by show 2 ≤ sizeLine; decide), fun p hp => ⟨.bl v, p, _, _, _, false, rfl, upd_same, .cons (.ty _) (.cons (.ty _) .nil), .base (.bl v), kitLT (by decide +kernel) (by decide +kernel), _, rfl, iteF ?_⟩⟩
        refine ⟨.bl v, rfl, .bl v, .ty "bool", _, _, true, rfl, .ty _, .base (.bl v), kit_ty (by decide +kernel), .bl v, rfl, .bl v, .ty "bool", _, _, true, rfl, .ty _, .base (.bl v), kit_ty (by decide +kernel), rfl, _, rfl, iteNS rfl ?_⟩
        refine ⟨.bl v, rfl, .bl v, .ty "int", _, _, true, rfl, .ty _, .base (.bl v), kit_ty (by decide +kernel), .bl v, rfl, .bl v, .ty "int", _, _, true, rfl, .ty _, .base (.bl v), kit_ty (by decide +kernel), rfl, _, rfl, iteNS rfl ?_⟩
        refine ⟨.bl v, rfl, .bl v, .ty "str", _, _, false, rfl, .ty _, .base (.bl v), kit_ty (by decide +kernel), .bl v, rfl, .bl v, .ty "str", _, _, false, rfl, .ty _, .base (.bl v), kit_ty (by decide +kernel), rfl, _, rfl, iteY rfl ?_⟩
        refine ⟨.bl v, rfl, .bl v, rfl, rfl, ?_⟩
        show Q (.bl (decide (V.bl v = V.bl v))) _
        rw [decide_eq_true rfl]
        exact k _ (Same.new hp)
      | int v =>
        refine ⟨.int v, rfl, _, rfl, iteN (fun e => nomatch e) ⟨.int v, rfl, _, rfl, iteN (fun e => nomatch e) ?_⟩⟩
        refine ⟨.int v, rfl, (by show 2 ≤ sizeLine; decide), fun p hp => ⟨.int v, p, _, _, _, false, rfl, upd_same, .cons (.ty _) (.cons (.ty _) .nil), .base (.int v), kitLT (by decide +kernel) (by decide +kernel), _, rfl, iteF ?_⟩⟩
        refine ⟨.int v, rfl, .int v, .ty "bool", _, _, false, rfl, .ty _, .base (.int v), kit_ty (by decide +kernel), .int v, rfl, .int v, .ty "bool", _, _, false, rfl, .ty _, .base (.int v), kit_ty (by decide +kernel), rfl, _, rfl, iteNS rfl ?_⟩
        refine ⟨.int v, rfl, .int v, .ty "int", _, _, true, rfl, .ty _, .base (.int v), kit_ty (by decide +kernel), .int v, rfl, .int v, .ty "int", _, _, true, rfl, .ty _, .base (.int v), kit_ty (by decide +kernel), rfl, _, rfl, iteNS rfl ?_⟩
        refine ⟨.int v, rfl, .int v, .ty "str", _, _, false, rfl, .ty _, .base (.int v), kit_ty (by decide +kernel), .int v, rfl, .int v, .ty "str", _, _, false, rfl, .ty _, .base (.int v), kit_ty (by decide +kernel), rfl, _, rfl, iteY rfl ?_⟩
        refine ⟨.int v, rfl, .int v, rfl, rfl, ?_⟩
        show Q (.bl (decide (V.int v = V.int v))) _
        rw [decide_eq_true rfl]
        exact k _ (Same.new hp)
      | str v =>
        refine ⟨.str v, rfl, _, rfl, iteN (fun e => nomatch e) ⟨.str v, rfl, _, rfl, iteN (fun e => nomatch e) ?_⟩⟩
        refine ⟨.str v, rfl, (by show 2 ≤ sizeLine; decide), fun p hp => ⟨.str v, p, _, _, _, false, rfl, upd_same, .cons (.ty _) (.cons (.ty _) .nil), .base (.str v), kitLT (by decide +kernel) (by decide +kernel), _, rfl, iteF ?_⟩⟩
        refine ⟨.str v, rfl, .str v, .ty "bool", _, _, false, rfl, .ty _, .base (.str v), kit_ty (by decide +kernel), .str v, rfl, .str v, .ty "bool", _, _, false, rfl, .ty _, .base (.str v), kit_ty (by decide +kernel), rfl, _, rfl, iteNS rfl ?_⟩
        refine ⟨.str v, rfl, .str v, .ty "int", _, _, false, rfl, .ty _, .base (.str v), kit_ty (by decide +kernel), .str v, rfl, .str v, .ty "int", _, _, false, rfl, .ty _, .base (.str v), kit_ty (by decide +kernel), rfl, _, rfl, iteNS rfl ?_⟩
        refine ⟨.str v, rfl, .str v, .ty "str", _, _, true, rfl, .ty _, .base (.str v), kit_ty (by decide +kernel), .str v, rfl, .str v, .ty "str", _, _, true, rfl, .ty _, .base (.str v), kit_ty (by decide +kernel), rfl, _, rfl, iteY rfl ?_⟩
        refine ⟨.str v, rfl, .str v, rfl, rfl, ?_⟩
        show Q (.bl (decide (V.str v = V.str v))) _
        rw [decide_eq_true rfl]
        exact k _ (Same.new hp)
      | _ => cases hf
  | n + 1 => by
    have G_law_same : FnOk P w K mg base CX0 (n + 1) Z.a_law_same Z.d_law_same ["_law_found", "_law_due"] (sp_law_same K n) := ok_law_same T n
    refine T.F_law_same.ok sc_law_same (fun vs H Q E h => ?_) (fun cdv A outer s H vs Q E hr h => ?_)
    · obtain ⟨x, y, rfl, _⟩ := h
      rfl
    · obtain ⟨x, y, rfl, hd, k⟩ := h
      refine ⟨_, (pss_cons (ps_if (PW.pt (pw_or (pt_cmp (pc_isN (pv 1))) (pw_or1 (pt_cmp (pc_isN (pv 0)))))) (pss_one (ps_ret (pe_and (pe_cmp (pc_isN (pv 1)) rfl) (pe_one (pe_cmp (pc_isN (pv 0)) rfl))))) pss_nil)
      (pss_cons (ps_if (pt_val (pe_callB call_isiT (by rfl) T.n_isinstance boot_isinstance (pa_cons (pv 1) (pa_cons (pe_tup (pa_cons (pe_bltn (v := .ty "list") (by rfl) T.n_list boot_list rfl) (pa_cons (pe_bltn (v := .ty "tuple") (by rfl) T.n_tuple boot_tuple rfl) pa_nil))) pa_nil)))) (pss_cons (ps_if (PW.pt (pw_or (pt_cmpR op_ne (pe_callB call_isi (by rfl) T.n_isinstance boot_isinstance (pa_cons (pv 0) (pa_cons (pe_bltn (v := .ty "list") (by rfl) T.n_list boot_list rfl) pa_nil))) (pe_callB call_isi (by rfl) T.n_isinstance boot_isinstance (pa_cons (pv 1) (pa_cons (pe_bltn (v := .ty "list") (by rfl) T.n_list boot_list rfl) pa_nil))) (nomark _)) (pw_or1 (pt_cmpR op_ne (pe_callB call_isi (by rfl) T.n_isinstance boot_isinstance (pa_cons (pv 0) (pa_cons (pe_bltn (v := .ty "tuple") (by rfl) T.n_tuple boot_tuple rfl) pa_nil))) (pe_callB call_isi (by rfl) T.n_isinstance boot_isinstance (pa_cons (pv 1) (pa_cons (pe_bltn (v := .ty "tuple") (by rfl) T.n_tuple boot_tuple rfl) pa_nil))) (nomark _))))) (pss_one (ps_ret pe_bl)) pss_nil)
      (pss_one (ps_ret (pe_and (pe_cmpR op_eq (pe_callB call_len (by rfl) T.n_len boot_len (pa_cons (pv 0) pa_nil)) (pe_callB call_len (by rfl) T.n_len boot_len (pa_cons (pv 1) pa_nil)) (nomark _)) (pe_one (pe_callB (cr_all rfl) (by rfl) T.n_all boot_all (pa_cons (pe_lc (own := [("_law_a", 2), ("_law_b", 3)]) (g := gTup K 2 (gCons (gName 2) (gCons (gName 3) gNil))) (tt := tYes) rfl sc_law_same.nd (RZ.pi_zipA (by rfl) T.n_zip (pa_cons (pv 0) (pa_cons (pv 1) pa_nil))) (blkOk_by (N := N_law_same) (sc := defScope s_law_same) (by decide +kernel)) (fun _ _ _ _ _ => pg_tup rfl (pgs_cons (pg_name (i := 2) sc_law_same.nd rfl (Or.inl rfl)) (pgs_cons (pg_name (i := 3) sc_law_same.nd rfl (Or.inl rfl)) pgs_nil))) (fun _ _ _ _ _ => pts_nil) (fun _ _ _ _ _ => (pe_call G_law_same (hr.mono (by omega)) (by rfl) T.m_law_same T.F_law_same.kp T.b_law_same .nil pass0 (pa_cons (pv 2) (pa_cons (pv 3) pa_nil))))) pa_nil))))))) pss_nil)
      (pss_cons (ps_if (PW.pt (pw_or (pt_cmpR op_ne (pe_callB call_isi (by rfl) T.n_isinstance boot_isinstance (pa_cons (pv 1) (pa_cons (pe_bltn (v := .ty "bool") (by rfl) T.n_bool boot_bool rfl) pa_nil))) (pe_callB call_isi (by rfl) T.n_isinstance boot_isinstance (pa_cons (pv 0) (pa_cons (pe_bltn (v := .ty "bool") (by rfl) T.n_bool boot_bool rfl) pa_nil))) (nomark _)) (pw_or1 (pt_cmpR op_ne (pe_callB call_isi (by rfl) T.n_isinstance boot_isinstance (pa_cons (pv 1) (pa_cons (pe_bltn (v := .ty "int") (by rfl) T.n_int boot_int rfl) pa_nil))) (pe_callB call_isi (by rfl) T.n_isinstance boot_isinstance (pa_cons (pv 0) (pa_cons (pe_bltn (v := .ty "int") (by rfl) T.n_int boot_int rfl) pa_nil))) (nomark _))))) (pss_one (ps_ret pe_bl)) pss_nil)
      (pss_one (ps_ret (pe_and (pe_cmpR op_eq (pe_callB call_isi (by rfl) T.n_isinstance boot_isinstance (pa_cons (pv 1) (pa_cons (pe_bltn (v := .ty "str") (by rfl) T.n_str boot_str rfl) pa_nil))) (pe_callB call_isi (by rfl) T.n_isinstance boot_isinstance (pa_cons (pv 0) (pa_cons (pe_bltn (v := .ty "str") (by rfl) T.n_str boot_str rfl) pa_nil))) (nomark _)) (pe_one (pe_cmpR op_eq (pv 0) (pv 1) (nomark _))))))))), ?_⟩
      rcases hd with ⟨hf, rfl⟩ | ⟨a, b, xs, ys, rfl, rfl, hd, hl, hz, hi⟩
      · cases x with
        | non => exact ⟨.non, rfl, _, rfl, iteY rfl ⟨.non, rfl, _, rfl, iteY rfl ⟨.non, rfl, k _ (Same.refl _)⟩⟩⟩
        | bl v =>
          refine ⟨.bl v, rfl, _, rfl, iteN (fun e => nomatch e) ⟨.bl v, rfl, _, rfl, iteN (fun e => nomatch e) ?_⟩⟩
          refine ⟨.bl v, rfl, (by show 2 ≤ sizeLine; decide), fun p hp => ⟨.bl v, p, _, _, _, false, rfl, upd_same, .cons (.ty _) (.cons (.ty _) .nil), .base (.bl v), kitLT (by decide +kernel) (by decide +kernel), _, rfl, iteF ?_⟩⟩
          refine ⟨.bl v, rfl, .bl v, .ty "bool", _, _, true, rfl, .ty _, .base (.bl v), kit_ty (by decide +kernel), .bl v, rfl, .bl v, .ty "bool", _, _, true, rfl, .ty _, .base (.bl v), kit_ty (by decide +kernel), rfl, _, rfl, iteNS rfl ?_⟩
          refine ⟨.bl v, rfl, .bl v, .ty "int", _, _, true, rfl, .ty _, .base (.bl v), kit_ty (by decide +kernel), .bl v, rfl, .bl v, .ty "int", _, _, true, rfl, .ty _, .base (.bl v), kit_ty (by decide +kernel), rfl, _, rfl, iteNS rfl ?_⟩
          refine ⟨.bl v, rfl, .bl v, .ty "str", _, _, false, rfl, .ty _, .base (.bl v), kit_ty (by decide +kernel), .bl v, rfl, .bl v, .ty "str", _, _, false, rfl, .ty _, .base (.bl v), kit_ty (by decide +kernel), rfl, _, rfl, iteY rfl ?_⟩
          refine ⟨.bl v, rfl, .bl v, rfl, rfl, ?_⟩
          show Q (.bl (decide (V.bl v = V.bl v))) _
          rw [decide_eq_true rfl]
          exact k _ (Same.new hp)
        | int v =>
          refine ⟨.int v, rfl, _, rfl, iteN (fun e => nomatch e) ⟨.int v, rfl, _, rfl, iteN (fun e => nomatch e) ?_⟩⟩
          refine ⟨.int v, rfl, (by show 2 ≤ sizeLine; decide), fun p hp => ⟨.int v, p, _, _, _, false, rfl, upd_same, .cons (.ty _) (.cons (.ty _) .nil), .base (.int v), kitLT (by decide +kernel) (by decide +kernel), _, rfl, iteF ?_⟩⟩
          refine ⟨.int v, rfl, .int v, .ty "bool", _, _, false, rfl, .ty _, .base (.int v), kit_ty (by decide +kernel), .int v, rfl, .int v, .ty "bool", _, _, false, rfl, .ty _, .base (.int v), kit_ty (by decide +kernel), rfl, _, rfl, iteNS rfl ?_⟩
          refine ⟨.int v, rfl, .int v, .ty "int", _, _, true, rfl, .ty _, .base (.int v), kit_ty (by decide +kernel), .int v, rfl, .int v, .ty "int", _, _, true, rfl, .ty _, .base (.int v), kit_ty (by decide +kernel), rfl, _, rfl, iteNS rfl ?_⟩
          refine ⟨.int v, rfl, .int v, .ty "str", _, _, false, rfl, .ty _, .base (.int v), kit_ty (by decide +kernel), .int v, rfl, .int v, .ty "str", _, _, false, rfl, .ty _, .base (.int v), kit_ty (by decide +kernel), rfl, _, rfl, iteY rfl ?_⟩
          refine ⟨.int v, rfl, .int v, rfl, rfl, ?_⟩
          show Q (.bl (decide (V.int v = V.int v))) _
          rw [decide_eq_true rfl]
          exact k _ (Same.new hp)
        | str v =>
          refine ⟨.str v, rfl, _, rfl, iteN (fun e => nomatch e) ⟨.str v, rfl, _, rfl, iteN (fun e => nomatch e) ?_⟩⟩
          refine ⟨.str v, rfl, (by show 2 ≤ sizeLine; decide), fun p hp => ⟨.str v, p, _, _, _, false, rfl, upd_same, .cons (.ty _) (.cons (.ty _) .nil), .base (.str v), kitLT (by decide +kernel) (by decide +kernel), _, rfl, iteF ?_⟩⟩
          refine ⟨.str v, rfl, .str v, .ty "bool", _, _, false, rfl, .ty _, .base (.str v), kit_ty (by decide +kernel), .str v, rfl, .str v, .ty "bool", _, _, false, rfl, .ty _, .base (.str v), kit_ty (by decide +kernel), rfl, _, rfl, iteNS rfl ?_⟩
          refine ⟨.str v, rfl, .str v, .ty "int", _, _, false, rfl, .ty _, .base (.str v), kit_ty (by decide +kernel), .str v, rfl, .str v, .ty "int", _, _, false, rfl, .ty _, .base (.str v), kit_ty (by decide +kernel), rfl, _, rfl, iteNS rfl ?_⟩
          refine ⟨.str v, rfl, .str v, .ty "str", _, _, true, rfl, .ty _, .base (.str v), kit_ty (by decide +kernel), .str v, rfl, .str v, .ty "str", _, _, true, rfl, .ty _, .base (.str v), kit_ty (by decide +kernel), rfl, _, rfl, iteY rfl ?_⟩
          refine ⟨.str v, rfl, .str v, rfl, rfl, ?_⟩
          show Q (.bl (decide (V.str v = V.str v))) _
          rw [decide_eq_true rfl]
          exact k _ (Same.new hp)
        | _ => cases hf
      · refine ⟨.ref b, rfl, _, rfl, iteN (fun e => nomatch e) ⟨.ref a, rfl, _, rfl, iteN (fun e => nomatch e) ?_⟩⟩
        rcases hd with ⟨h1, h2⟩ | ⟨h1, h2⟩
        · refine ⟨.ref b, rfl, (by show 2 ≤ sizeLine; decide), fun p hp => ?_⟩
          have s1 : Same H (upd H p (.tup [.ty "list", .ty "tuple"])) := Same.new hp
          refine ⟨.ref b, p, _, _, _, true, rfl, upd_same, .cons (.ty _) (.cons (.ty _) .nil), tyx_l (s1.seq h2), kitLl, _, rfl, iteT ?_⟩
          generalize upd H p (.tup [.ty "list", .ty "tuple"]) = H1 at s1 ⊢
          have g1 := s1.seq h1
          have g2 := s1.seq h2
          refine ⟨.ref a, rfl, .ref a, .ty "list", _, _, true, rfl, .ty _, tyx_l g1, kit_ty (by decide +kernel), .ref b, rfl, .ref b, .ty "list", _, _, true, rfl, .ty _, tyx_l g2, kit_ty (by decide +kernel), rfl, _, rfl, iteNS rfl ?_⟩
          refine ⟨.ref a, rfl, .ref a, .ty "tuple", _, _, false, rfl, .ty _, tyx_l g1, kit_ty (by decide +kernel), .ref b, rfl, .ref b, .ty "tuple", _, _, false, rfl, .ty _, tyx_l g2, kit_ty (by decide +kernel), rfl, _, rfl, iteNS rfl ?_⟩
          refine ⟨.ref a, rfl, .ref a, _, rfl, .inl ⟨_, g1, rfl⟩, .ref b, rfl, .ref b, _, rfl, .inl ⟨_, g2, rfl⟩, rfl, _, rfl, iteY (by rw [hl]) ?_⟩
          refine ⟨.ref a, rfl, .ref b, rfl, a, b, xs, ys, rfl, .inl ⟨g1, g2, fun D hD => ?_⟩⟩
          have hD0 : H D = none := s1.free hD
          refine lc_it (walk_zip (K := K) (xs := xs) (ys := ys) (n := xs.length) (by omega)) (fun i H' => Same H H' ∧ H' D = some (.lst ((List.replicate i true).map V.bl))) ⟨Same.put s1 hD0, upd_same⟩ (fun i H' _ q => ⟨q.1.seq h1, q.1.seq h2⟩) ?_ ?_
          · rintro i v H2 H3 hi' ⟨s2, e2⟩ ⟨T, u, t, rfl, hT, rfl, hu, ht⟩
            refine ⟨T, [u, t], rfl, SqT.of upd_same, rfl, u, [t], rfl, t, [], rfl, rfl, rfl, u, rfl, t, rfl, u, t, rfl, ((hi i u t hu ht).same s2).same (Same.new hT), fun H4 s4 => ?_⟩
            have nDT : D ≠ T := ne_of_none e2 hT
            refine ⟨_, s4 _ _ (by rw [upd_ne nDT]; exact e2), ?_, (Same.put ((s2.trans (Same.new hT)).trans s4) hD0), ?_⟩
            · rw [List.length_map, List.length_replicate]
              exact Nat.lt_of_lt_of_le hi' (Nat.le_trans hz (by decide))
            · rw [upd_same, List.replicate_succ', List.map_append]
              rfl
          · rintro H' ⟨s2, e2⟩
            refine ⟨D, List.replicate xs.length true, rfl, SqL.of e2, ?_⟩
            rw [all_rep]
            exact k _ s2
        · refine ⟨.ref b, rfl, (by show 2 ≤ sizeLine; decide), fun p hp => ?_⟩
          have s1 : Same H (upd H p (.tup [.ty "list", .ty "tuple"])) := Same.new hp
          refine ⟨.ref b, p, _, _, _, true, rfl, upd_same, .cons (.ty _) (.cons (.ty _) .nil), tyx_t (Same.sqT s1 h2), kitLt, _, rfl, iteT ?_⟩
          generalize upd H p (.tup [.ty "list", .ty "tuple"]) = H1 at s1 ⊢
          have g1 := Same.sqT s1 h1
          have g2 := Same.sqT s1 h2
          refine ⟨.ref a, rfl, .ref a, .ty "list", _, _, false, rfl, .ty _, tyx_t g1, kit_ty (by decide +kernel), .ref b, rfl, .ref b, .ty "list", _, _, false, rfl, .ty _, tyx_t g2, kit_ty (by decide +kernel), rfl, _, rfl, iteNS rfl ?_⟩
          refine ⟨.ref a, rfl, .ref a, .ty "tuple", _, _, true, rfl, .ty _, tyx_t g1, kit_ty (by decide +kernel), .ref b, rfl, .ref b, .ty "tuple", _, _, true, rfl, .ty _, tyx_t g2, kit_ty (by decide +kernel), rfl, _, rfl, iteNS rfl ?_⟩
          refine ⟨.ref a, rfl, .ref a, _, rfl, .inr ⟨_, g1, rfl⟩, .ref b, rfl, .ref b, _, rfl, .inr ⟨_, g2, rfl⟩, rfl, _, rfl, iteY (by rw [hl]) ?_⟩
          refine ⟨.ref a, rfl, .ref b, rfl, a, b, xs, ys, rfl, .inr ⟨g1, g2, fun D hD => ?_⟩⟩
          have hD0 : H D = none := s1.free hD
          refine lc_it (walk_zipT (K := K) (xs := xs) (ys := ys) (n := xs.length) (by omega)) (fun i H' => Same H H' ∧ H' D = some (.lst ((List.replicate i true).map V.bl))) ⟨Same.put s1 hD0, upd_same⟩ (fun i H' _ q => ⟨Same.sqT q.1 h1, Same.sqT q.1 h2⟩) ?_ ?_
          · rintro i v H2 H3 hi' ⟨s2, e2⟩ ⟨T, u, t, rfl, hT, rfl, hu, ht⟩
            refine ⟨T, [u, t], rfl, SqT.of upd_same, rfl, u, [t], rfl, t, [], rfl, rfl, rfl, u, rfl, t, rfl, u, t, rfl, ((hi i u t hu ht).same s2).same (Same.new hT), fun H4 s4 => ?_⟩
            have nDT : D ≠ T := ne_of_none e2 hT
            refine ⟨_, s4 _ _ (by rw [upd_ne nDT]; exact e2), ?_, (Same.put ((s2.trans (Same.new hT)).trans s4) hD0), ?_⟩
            · rw [List.length_map, List.length_replicate]
              exact Nat.lt_of_lt_of_le hi' (Nat.le_trans hz (by decide))
            · rw [upd_same, List.replicate_succ', List.map_append]
              rfl
          · rintro H' ⟨s2, e2⟩
            refine ⟨D, List.replicate xs.length true, rfl, SqL.of e2, ?_⟩
            rw [all_rep]
            exact k _ s2
end

/-! ### values of every kind -/
/-- a text of ordinary size and signs -/
def StrK (z : Str) : Prop := z.cps.size ≤ 100000 ∧ ∀ c ∈ z.cps.toList, c < 1114112
/-- a value of data, n deep at most, none of whose lists is the bag -/
def Okv (K : PySem.W.Frag) (H : Hp) (b : Addr) : Nat → V → Prop
  | 0, v => flatV v = true ∧ ∀ z, v = .str z → StrK z
  | n + 1, v => (flatV v = true ∧ ∀ z, v = .str z → StrK z) ∨ ∃ (a : Addr) (xs : List V), v = .ref a ∧ a ≠ b ∧ (SqL K H a xs ∨ SqT K H a xs) ∧ xs.length ≤ 100000 ∧ ∀ x ∈ xs, Okv K H b n x
theorem Okv.stp {K : PySem.W.Frag} {H H' : Hp} {b : Addr} (s : Stp b H H') : ∀ {n : Nat} {v : V}, Okv K H b n v → Okv K H' b n v
  | 0, _, h => h
  | n + 1, _, .inl h => .inl h
  | n + 1, _, .inr ⟨a, xs, e, ne, h, hl, hx⟩ => .inr ⟨a, xs, e, ne, h.imp (s.sqL ne) (s.sqT ne), hl, fun x m => (hx x m).stp s⟩
theorem Okv.eqd {K : PySem.W.Frag} {H : Hp} {b : Addr} : ∀ {n : Nat} {v : V}, Okv K H b n v → Eqd K H n v v
  | 0, _, h => ⟨h.1, rfl⟩
  | n + 1, _, .inl h => .inl ⟨h.1, rfl⟩
  | n + 1, _, .inr ⟨a, xs, e, _, h, hl, hx⟩ => .inr ⟨a, a, xs, xs, e, e, h.imp (fun q => ⟨q, q⟩) (fun q => ⟨q, q⟩), rfl, hl, fun i u v hu hv => by
      rw [hu] at hv
      cases hv
      exact (hx u (List.mem_of_getElem? hu)).eqd⟩
theorem Okv.of_flat {K : PySem.W.Frag} {H : Hp} {b : Addr} {n : Nat} {v : V} (h : flatV v = true) (hz : ∀ z, v = .str z → StrK z) : Okv K H b n v := by
  cases n with
  | zero => exact ⟨h, hz⟩
  | succ n => exact .inl ⟨h, hz⟩
theorem Okv.non {K : PySem.W.Frag} {H : Hp} {b : Addr} {n : Nat} : Okv K H b n .non := .of_flat rfl (fun _ e => nomatch e)
theorem Okv.bl {K : PySem.W.Frag} {H : Hp} {b : Addr} {n : Nat} {k : Bool} : Okv K H b n (.bl k) := .of_flat rfl (fun _ e => nomatch e)
theorem Okv.int {K : PySem.W.Frag} {H : Hp} {b : Addr} {n : Nat} {i : Int} : Okv K H b n (.int i) := .of_flat rfl (fun _ e => nomatch e)
theorem Okv.str {K : PySem.W.Frag} {H : Hp} {b : Addr} {n : Nat} {z : Str} (h : StrK z) : Okv K H b n (.str z) := .of_flat rfl (fun _ e => by cases e; exact h)
/-- what kind it is -/
def isS : V → Bool
  | .str _ => true
  | _ => false
def isB : V → Bool
  | .bl _ => true
  | _ => false
def isI : V → Bool
  | .int _ => true
  | .bl _ => true
  | _ => false
theorem Okv.ty {K : PySem.W.Frag} {H : Hp} {b : Addr} {n : Nat} {v : V} (h : Okv K H b n v) : ∃ t, TyX K H v t ∧ PySem.W.kitOne K t (.type "str") = some (isS v) ∧ PySem.W.kitOne K t (.type "bool") = some (isB v) ∧ PySem.W.kitOne K t (.type "int") = some (isI v) := by
  have fl : flatV v = true → ∃ t, TyX K H v t ∧ PySem.W.kitOne K t (.type "str") = some (isS v) ∧ PySem.W.kitOne K t (.type "bool") = some (isB v) ∧ PySem.W.kitOne K t (.type "int") = some (isI v) := fun hf => by
    cases v with
    | non => exact ⟨_, .base .non, kit_ty (by decide +kernel), kit_ty (by decide +kernel), kit_ty (by decide +kernel)⟩
    | bl k => exact ⟨_, .base (.bl k), kit_ty (show kitB "bool" "str" = some false by decide +kernel), kit_ty (show kitB "bool" "bool" = some true by decide +kernel), kit_ty (show kitB "bool" "int" = some true by decide +kernel)⟩
    | int i => exact ⟨_, .base (.int i), kit_ty (show kitB "int" "str" = some false by decide +kernel), kit_ty (show kitB "int" "bool" = some false by decide +kernel), kit_ty (show kitB "int" "int" = some true by decide +kernel)⟩
    | str z => exact ⟨_, .base (.str z), kit_ty (show kitB "str" "str" = some true by decide +kernel), kit_ty (show kitB "str" "bool" = some false by decide +kernel), kit_ty (show kitB "str" "int" = some false by decide +kernel)⟩
    | _ => cases hf
  cases n with
  | zero => exact fl h.1
  | succ n =>
    rcases h with h | ⟨a, xs, rfl, _, h | h, _⟩
    · exact fl h.1
    · exact ⟨_, tyx_l h, kit_ty (show kitB "list" "str" = some false by decide +kernel), kit_ty (show kitB "list" "bool" = some false by decide +kernel), kit_ty (show kitB "list" "int" = some false by decide +kernel)⟩
    · exact ⟨_, tyx_t h, kit_ty (show kitB "tuple" "str" = some false by decide +kernel), kit_ty (show kitB "tuple" "bool" = some false by decide +kernel), kit_ty (show kitB "tuple" "int" = some false by decide +kernel)⟩
theorem Okv.strK {K : PySem.W.Frag} {H : Hp} {b : Addr} {n : Nat} {z : Str} (h : Okv K H b n (.str z)) : StrK z := by
  cases n with
  | zero => exact h.2 z rfl
  | succ n =>
    rcases h with h | ⟨a, xs, e, _⟩
    · exact h.2 z rfl
    · cases e
theorem Okv.short {K : PySem.W.Frag} {H : Hp} {b : Addr} {n : Nat} {z : Str} (h : Okv K H b n (.str z)) : z.cps.size ≤ 100000 := h.strK.1
theorem isS_of {v : V} (h : isS v = true) : ∃ z, v = .str z := by
  cases v with
  | str z => exact ⟨z, rfl⟩
  | _ => cases h
/-! ### names and numbers, as plain functions -/
def inL (c : Nat) : Bool := decide (97 ≤ c) && decide (c ≤ 122)
def nmV : V → Bool
  | .str z => decide (1 ≤ z.cps.size) && decide (z.cps.size ≤ 6) && z.cps.toList.all inL
  | _ => false
def numV (v : V) (lo hi : Int) : Bool := match v with
  | .int i => decide (lo ≤ i) && decide (i ≤ hi)
  | _ => false
def regs : List V := [.str "r0", .str "r1", .str "r2"]
def regV (v : V) : Bool := isS v && inV v regs
theorem lt_sign (c d : Nat) : (([c] : List Nat) < [d]) ↔ c < d := by
  constructor
  · intro h
    cases h with
    | rel h => exact h
    | cons h => cases h
  · intro h
    exact .rel h
theorem le_sign (c d : Nat) : (!decide (([c] : List Nat) < [d])) = decide (d ≤ c) := by
  rw [Bool.eq_iff_iff]
  simp [lt_sign]
theorem cps_a : ("a" : Str).cps.toList = [97] := by decide +kernel
theorem cps_z : ("z" : Str).cps.toList = [122] := by decide +kernel
theorem cps_abc : ("abcdefghijklmnopqrstuvwxyz" : Str).cps.toList = List.range' 97 26 := by decide +kernel
theorem in_abc (c : Nat) : decide (c ∈ ("abcdefghijklmnopqrstuvwxyz" : Str).cps.toList) = inL c := by
  rw [cps_abc, Bool.eq_iff_iff]
  simp [inL, List.mem_range'_1]
  omega
/-- what holds of each answer, told ahead: any extension, then the answer -/
theorem take_snoc {α β : Type} (f : α → β) {l : List α} {i : Nat} {x : α} (h : l[i]? = some x) : (l.take (i + 1)).map f = (l.take i).map f ++ [f x] := by
  rw [List.take_add_one, h, List.map_append]
  rfl

/-! ### texts of drawn signs -/
theorem joinL_ones : ∀ cs : List Nat, TL.joinL [] (cs.map fun c => [c]) = cs
  | [] => rfl
  | [_] => rfl
  | c :: d :: r => by
    show [c] ++ ([] ++ TL.joinL [] ((d :: r).map fun c => [c])) = c :: d :: r
    rw [joinL_ones (d :: r)]
    rfl
theorem join_ones (cs : List Nat) : Txt.join ("" : Str) (cs.map fun c => (⟨#[c]⟩ : Str)) = ⟨cs.toArray⟩ := by
  have e : ("" : Str) = SX.S [] := by decide +kernel
  have e2 : (cs.map fun c => (⟨#[c]⟩ : Str)) = (cs.map fun c => [c]).map SX.S := by
    rw [List.map_map]
    rfl
  rw [e, e2, SX.join_S, joinL_ones]
theorem len_ones : ∀ cs : List Nat, ((cs.map fun c => (⟨#[c]⟩ : Str)).map (·.length)).sum = cs.length
  | [] => rfl
  | c :: r => by
    rw [List.map_cons, List.map_cons, List.sum_cons, len_ones r, List.length_cons]
    show 1 + r.length = r.length + 1
    omega
theorem strK_of {cs : List Nat} (hl : cs.length ≤ 100000) (h : ∀ c ∈ cs, c < 1114112) : StrK (⟨cs.toArray⟩ : Str) := ⟨by simpa using hl, by simpa using h⟩
theorem Eqd.lists {K : PySem.W.Frag} {H : Hp} {a b : Addr} {xs : List V} {n : Nat} (h1 : SqL K H a xs) (h2 : SqL K H b xs) (hl : xs.length ≤ 100000) (hf : ∀ x ∈ xs, Eqd K H n x x) : Eqd K H (n + 1) (.ref a) (.ref b) :=
  .inr ⟨a, b, xs, xs, rfl, rfl, .inl ⟨h1, h2⟩, rfl, hl, fun i u v hu hv => by
    rw [hu] at hv
    cases hv
    exact hf u (List.mem_of_getElem? hu)⟩
theorem Eqd.tups {K : PySem.W.Frag} {H : Hp} {a b : Addr} {xs : List V} {n : Nat} (h1 : SqT K H a xs) (h2 : SqT K H b xs) (hl : xs.length ≤ 100000) (hf : ∀ x ∈ xs, Eqd K H n x x) : Eqd K H (n + 1) (.ref a) (.ref b) :=
  .inr ⟨a, b, xs, xs, rfl, rfl, .inr ⟨h1, h2⟩, rfl, hl, fun i u v hu hv => by
    rw [hu] at hv
    cases hv
    exact hf u (List.mem_of_getElem? hu)⟩
/-- a flat value is what it is in any heap -/
theorem Okv.lst0 {K : PySem.W.Frag} {H : Hp} {b a : Addr} {n : Nat} {xs : List V} (ne : a ≠ b) (h : SqL K H a xs) (hl : xs.length ≤ 100000) (hx : ∀ x ∈ xs, Okv K H b n x) : Okv K H b (n + 1) (.ref a) := .inr ⟨a, xs, rfl, ne, .inl h, hl, hx⟩
theorem Okv.tup0 {K : PySem.W.Frag} {H : Hp} {b a : Addr} {n : Nat} {xs : List V} (ne : a ≠ b) (h : SqT K H a xs) (hl : xs.length ≤ 100000) (hx : ∀ x ∈ xs, Okv K H b n x) : Okv K H b (n + 1) (.ref a) := .inr ⟨a, xs, rfl, ne, .inr h, hl, hx⟩
theorem mem1 {α : Type} {P : α → Prop} {x : α} (h : P x) : ∀ y ∈ [x], P y := fun y m => by
  rw [List.mem_singleton.mp m]
  exact h
theorem memc {α : Type} {P : α → Prop} {x : α} {l : List α} (h : P x) (t : ∀ y ∈ l, P y) : ∀ y ∈ x :: l, P y := fun y m => by
  rcases List.mem_cons.mp m with e | m
  · rw [e]
    exact h
  · exact t y m
theorem mem0 {α : Type} {P : α → Prop} : ∀ y ∈ ([] : List α), P y := fun _ m => nomatch m
theorem mema {α : Type} {P : α → Prop} {l r : List α} (h : ∀ y ∈ l, P y) (t : ∀ y ∈ r, P y) : ∀ y ∈ l ++ r, P y := fun y m => by
  rcases List.mem_append.mp m with m | m
  · exact h y m
  · exact t y m
/-- a written text -/
theorem Okv.lit {K : PySem.W.Frag} {H : Hp} {b : Addr} {n : Nat} {z : Str} (h : (decide (z.cps.size ≤ 100000) && z.cps.toList.all fun c => decide (c < 1114112)) = true) : Okv K H b n (.str z) := by
  rw [Bool.and_eq_true] at h
  refine .str ⟨of_decide_eq_true h.1, fun c m => ?_⟩
  have q := List.all_eq_true.mp h.2 c m
  exact of_decide_eq_true q
/-- such a text drawn from -/
theorem Thg.lit {K : PySem.W.Frag} {H : Hp} {b : Addr} {z : Str} (h : (decide (0 < z.cps.size) && decide (z.cps.size ≤ 100000) && z.cps.toList.all fun c => decide (c < 1114112)) = true) : Thg K H b (.str z) (fun v => ∃ c, v = .str ⟨#[c]⟩ ∧ c < 1114112) := by
  rw [Bool.and_eq_true, Bool.and_eq_true] at h
  exact .inl ⟨z, rfl, of_decide_eq_true h.1.1, of_decide_eq_true h.1.2, fun c m => ⟨c, rfl, of_decide_eq_true (List.all_eq_true.mp h.2 c m)⟩⟩
theorem Thg.lst {K : PySem.W.Frag} {H : Hp} {b a : Addr} {xs : List V} {Pt : V → Prop} (ne : a ≠ b) (h : SqL K H a xs) (h0 : 0 < xs.length) (hl : xs.length ≤ 100000) (hx : ∀ v ∈ xs, Pt v) : Thg K H b (.ref a) Pt := .inr ⟨a, xs, rfl, ne, h, h0, hl, hx⟩

/-! ### list of a text -/
theorem call_list_str1 {X : Cx} (hc : X.calm = true) : CallR X (.type "list") (fun xs H Q => ∃ z : Str, xs = [.str z] ∧ z.cps.size ≤ sizeLine ∧ ∀ p, H p = none → Q (.ref p) (upd H p (.lst (z.cps.toList.map fun c => V.str ⟨#[c]⟩)))) := by
  intro pins s σ H xs us Q I r h
  obtain ⟨z, rfl, hz, q⟩ := h
  obtain ⟨u, rfl, t, rfl⟩ := vals1 r
  refine PySem.call_list_str (I.ok.hd hc) z t (fun h' tk acc' c' hk hS' hacc => ?_) hz
  have rv : Vals (z.cps.toList.map fun c => V.str ⟨#[c]⟩) acc'.toList := vals_of_idx _ _ (by simpa using hacc.1) fun j u hj => by
    obtain ⟨c, t2, hc2, rfl⟩ := hacc.2 j u (by simpa using hj)
    exact ⟨.str ⟨#[c]⟩, by simp [hc2], ⟨t2, rfl⟩⟩
  exact ⟨.ref s.heap.objs.size, _, I.laid (t' := tk) hk (Nat.le_refl _) (show ObjOk X.prog X.w _ h' _ (.lst _) from ⟨by simpa using hz, acc'.toList, c', rv, by simpa using hS'⟩), rfl, q _ (I.hok.fresh (Nat.le_refl _))⟩

/-! ### names and rows, as data -/
def Nm (z : Str) : Prop := 1 ≤ z.cps.size ∧ z.cps.size ≤ 6 ∧ z.cps.toList.all inL = true
theorem Nm.strK {z : Str} (h : Nm z) : StrK z := ⟨by have := h.2.1; omega, fun c m => by
  have q := List.all_eq_true.mp h.2.2 c m
  simp only [inL, Bool.and_eq_true, decide_eq_true_eq] at q
  omega⟩
/-- a code row; ts the names it may have -/
inductive CRow (ts : List Str) : List V → Prop where
  | put {r : V} {n : Int} (hr : r ∈ regs) (h0 : 0 ≤ n) (h1 : n ≤ 65535) : CRow ts [.str "put", r, .int n]
  | name {r : V} {t : Str} (hr : r ∈ regs) (ht : t ∈ ts) : CRow ts [.str "name", r, .str t]
  | ifzero {r : V} {t : Str} (hr : r ∈ regs) (ht : t ∈ ts) : CRow ts [.str "ifzero", r, .str t]
  | add {r s : V} (hr : r ∈ regs) (hs : s ∈ regs) : CRow ts [.str "add", r, s]
  | take {r s : V} (hr : r ∈ regs) (hs : s ∈ regs) : CRow ts [.str "take", r, s]
  | load {r s : V} {d : Int} (hr : r ∈ regs) (hs : s ∈ regs) (h0 : 0 ≤ d) (h1 : d ≤ 15) : CRow ts [.str "load", r, s, .int d]
  | store {r s : V} {d : Int} (hr : r ∈ regs) (hs : s ∈ regs) (h0 : 0 ≤ d) (h1 : d ≤ 15) : CRow ts [.str "store", r, s, .int d]
  | jump {t : Str} (ht : t ∈ ts) : CRow ts [.str "jump", .str t]
  | call {t : Str} (ht : t ∈ ts) : CRow ts [.str "call", .str t]
  | callby {r : V} (hr : r ∈ regs) : CRow ts [.str "callby", r]
  | out {r : V} (hr : r ∈ regs) : CRow ts [.str "out", r]
  | back : CRow ts [.str "back"]
  | halt : CRow ts [.str "halt"]
  | room {k : Int} (h0 : 1 ≤ k) (h1 : k ≤ 120) : CRow ts [.str "room", .int k]
/-- a data row -/
inductive DRow (ts : List Str) : List V → Prop where
  | word {n : Int} (h0 : 0 ≤ n) (h1 : n ≤ 65535) : DRow ts [.str "word", .int n]
  | address {t : Str} (ht : t ∈ ts) : DRow ts [.str "address", .str t]
  | room {k : Int} (h0 : 1 ≤ k) (h1 : k ≤ 120) : DRow ts [.str "room", .int k]
theorem Stp.putnew {b p : Addr} {H H' : Hp} {o : HO} (s : Stp b H H') (h : H p = none) : Stp b H (upd H' p o) := fun a u n e => by
  rw [upd_ne (ne_of_none e h)]
  exact s a u n e
theorem cut_to {cs : List Nat} {k : Int} (h : 0 ≤ k) : cutS (⟨cs.toArray⟩ : Str) none (some k) = ⟨(cs.take k.toNat).toArray⟩ := (C8.cutS_slice _ _ _).trans (SX.slice_to h)
theorem cut_from {cs : List Nat} {k : Int} (h : 0 ≤ k) : cutS (⟨cs.toArray⟩ : Str) (some k) none = ⟨(cs.drop k.toNat).toArray⟩ := (C8.cutS_slice _ _ _).trans (SX.slice_from h)
theorem cat_S (a b : List Nat) : (⟨a.toArray⟩ : Str) ++ (⟨b.toArray⟩ : Str) = ⟨(a ++ b).toArray⟩ := SX.S_cat a b
theorem len_S (a : List Nat) : (⟨a.toArray⟩ : Str).length = a.length := SX.S_len a
theorem map_er {α β : Type} (f : α → β) : ∀ (l : List α) (i : Nat), (l.map f).eraseIdx i = (l.eraseIdx i).map f
  | [], _ => rfl
  | _ :: _, 0 => rfl
  | a :: l, i + 1 => congrArg (f a :: ·) (map_er f l i)
theorem Thg.abc {K : PySem.W.Frag} {H : Hp} {b : Addr} : Thg K H b (.str "abcdefghijklmnopqrstuvwxyz") (fun v => ∃ c, v = .str ⟨#[c]⟩ ∧ inL c = true) :=
  .inl ⟨_, rfl, by decide +kernel, by decide +kernel, fun c m => ⟨c, rfl, by rw [← in_abc]; exact decide_eq_true m⟩⟩
section
variable {P : Program} {w : World} {K : PySem.W.Frag} {mg : Str → Option Value} {base : Heap} {Z : Fs}
/-! ### _law_titles -/
def sp_law_titles (K : PySem.W.Frag) : Sp := fun vs H Q _ => ∃ (b l : Addr), vs = [.ref b, .int 3] ∧ Bag H b l ∧ ∀ (H' : Hp) (p : Addr) (zs : List Str), Stp b H H' → Bag H' b l → H p = none → p ≠ b → p ≠ l → H' p = some (.lst (zs.map V.str)) → zs.length = 3 → (∀ z ∈ zs, Nm z) → Q (.ref p) H'
theorem ok_law_titles (T : Txt K w mg Z) : FnOk P w K mg base CX0 3 Z.a_law_titles Z.d_law_titles ["_law_bag_here", "_law_many"] (sp_law_titles K) := by
  have G_law_draw : FnOk P w K mg base CX0 1 Z.a_law_draw Z.d_law_draw ["_law_bag_here", "_law_sides"] sp_law_draw := ok_law_draw T
  have G_law_of : FnOk P w K mg base CX0 2 Z.a_law_of Z.d_law_of ["_law_bag_here", "_law_things"] (sp_law_of K) := ok_law_of T
  refine T.F_law_titles.ok sc_law_titles (fun vs H Q E h => ?_) (fun cdv A outer s H vs Q E hr h => ?_)
  · obtain ⟨b, l, rfl, _⟩ := h
    rfl
  · obtain ⟨b, l, rfl, B, k⟩ := h
    refine ⟨_, (pss_cons (ps_par (i := 2) (j := 3) (by rfl) sc_law_titles.nd rfl rfl (by decide) rfl rfl (pa_cons (pe_callTy (call_list_str1 rfl) (by rfl) T.n_list boot_list (pa_cons pe_str pa_nil)) (pa_cons (pe_lst pa_nil) pa_nil)) (by rfl))
      (pss_cons (ps_set (i := 4) sc_law_titles.nd rfl (Or.inl rfl) (pe_join pe_str (pe_lc (own := [("_law_k", 5)]) (g := gName 5) (tt := tYes) rfl sc_law_titles.nd (pi_range1 (by rfl) T.n_range (pa_cons (pe_call G_law_draw (hr.mono (by omega)) (by rfl) T.m_law_draw T.F_law_draw.kp T.b_law_draw .nil pass0 (pa_cons (pv 0) (pa_cons pe_int pa_nil))) pa_nil)) (blkOk_by (N := N_law_titles) (sc := defScope s_law_titles) (by decide +kernel)) (fun _ _ _ _ _ => pg_name (i := 5) sc_law_titles.nd rfl (Or.inl rfl)) (fun _ _ _ _ _ => pts_nil) (fun _ _ _ _ _ => (pe_call G_law_of (hr.mono (by omega)) (by rfl) T.m_law_of T.F_law_of.kp T.b_law_of .nil pass0 (pa_cons (pv 0) (pa_cons pe_str pa_nil)))))))
      (pss_cons (ps_set (i := 6) sc_law_titles.nd rfl (Or.inl rfl) (pe_call G_law_draw (hr.mono (by omega)) (by rfl) T.m_law_draw T.F_law_draw.kp T.b_law_draw .nil pass0 (pa_cons (pv 0) (pa_cons (pe_op op_add (pe_callB call_len (by rfl) T.n_len boot_len (pa_cons (pv 4) pa_nil)) pe_int) pa_nil))))
      (pss_cons (ps_for PassesOwn.never rfl (pi_range1 (by rfl) T.n_range (pa_cons (pv 1) pa_nil)) (pg_name (i := 5) sc_law_titles.nd rfl (Or.inl rfl)) (pss_one (ps_expr (pe_bm PySem.F.plainAttrs_list PySem.F.slot_list_append PySem.F.type_list_append mt_append (pv 3) (pa_cons (pe_op op_add_str (pe_op op_add_str (pe_slice sl_str (pv 4) po_none (po_some (pv 6))) (pe_bm PySem.F.plainAttrs_list PySem.F.slot_list_pop PySem.F.type_list_pop mt_popAt (pv 2) (pa_cons (pe_call G_law_draw (hr.mono (by omega)) (by rfl) T.m_law_draw T.F_law_draw.kp T.b_law_draw .nil pass0 (pa_cons (pv 0) (pa_cons (pe_callB call_len (by rfl) T.n_len boot_len (pa_cons (pv 2) pa_nil)) pa_nil))) pa_nil))) (pe_slice sl_str (pv 4) (po_some (pv 6)) po_none)) pa_nil)))))
      (pss_one (ps_ret (pv 3))))))), ?_⟩
    refine ⟨_, rfl, (by decide +kernel), fun p1 h1 => ⟨Nat.zero_le _, fun p2 h2 => ⟨_, _, rfl, ?_⟩⟩⟩
    have n1 := B.ne h1
    have l1 := B.nel h1
    have s1 : Same H (upd H p1 (.lst (("abcdefghijklmnopqrstuvwxyz" : Str).cps.toList.map fun c => V.str ⟨#[c]⟩))) := Same.new h1
    have e1 : (upd H p1 (.lst (("abcdefghijklmnopqrstuvwxyz" : Str).cps.toList.map fun c => V.str ⟨#[c]⟩))) p1 = some (.lst (("abcdefghijklmnopqrstuvwxyz" : Str).cps.toList.map fun c => V.str ⟨#[c]⟩)) := upd_same
    generalize upd H p1 (.lst (("abcdefghijklmnopqrstuvwxyz" : Str).cps.toList.map fun c => V.str ⟨#[c]⟩)) = H1 at s1 e1 h2 ⊢
    have B1 := B.same s1
    have n2 := B1.ne h2
    have l2 := B1.nel h2
    have n12 : p1 ≠ p2 := ne_of_none e1 h2
    have z2 : H p2 = none := s1.free h2
    have s2 : Same H1 (upd H1 p2 (.lst [])) := Same.new h2
    have e2 : (upd H1 p2 (.lst [])) p2 = some (.lst []) := upd_same
    generalize upd H1 p2 (.lst []) = H2 at s2 e2 ⊢
    replace e1 := s2 _ _ e1
    have B2 := B1.same s2
    have s02 : Stp b H H2 := Same.stp (s1.trans s2)
    clear s1 s2 B1 h2
    -- stem
    refine ⟨⟨_, rfl⟩, .ref b, rfl, b, l, 6, rfl, B2, by decide, by decide, fun H3 d s3 B3 g0 g1 => ⟨d, rfl, by omega, by omega, fun D hD => ?_⟩⟩
    have nD := B3.ne hD
    have lD := B3.nel hD
    refine lc_it walk_range (fun i H' => Bag H' b l ∧ Stp b H3 H' ∧ ∃ cs : List Nat, H' D = some (.lst ((cs.map fun c => (⟨#[c]⟩ : Str)).map V.str)) ∧ cs.length = i ∧ ∀ c ∈ cs, inL c = true) ⟨B3.new hD, Stp.new hD, [], upd_same, rfl, mem0⟩ (fun _ _ _ _ => True.intro) ?_ ?_
    · rintro j x H4 H5 hj ⟨B4, s4, cs, e4, lc, hc⟩ ⟨rfl, rfl⟩
      refine ⟨rfl, .ref b, rfl, b, l, _, _, rfl, B4, Thg.abc, fun H6 v s6 B6 hv => ?_⟩
      obtain ⟨c, rfl, hc4⟩ := hv
      refine ⟨_, s6 _ _ nD e4, ?_, B6.put nD lD, (s4.trans s6).putnew hD, cs ++ [c], ?_, ?_, mema hc (mem1 hc4)⟩
      · rw [List.length_map, List.length_map, lc]
        exact Nat.lt_of_lt_of_le (show j < 6 by omega) (by decide)
      · rw [upd_same]
        simp
      · simp [lc]
    rintro H4 ⟨B4, s4, cs, e4, lc, hc⟩
    refine ⟨_, D, cs.map fun c => (⟨#[c]⟩ : Str), rfl, rfl, .inl (SqL.of e4), ?_, ?_⟩
    · rw [len_ones, List.length_map, lc]
      show d.toNat + d.toNat * 0 ≤ 16777216
      omega
    rw [join_ones]
    have lc' : cs.length ≤ 5 := by omega
    replace s4 := s3.trans s4
    replace s02 := s02.trans s4
    replace e1 := s4 _ _ n1 e1
    replace e2 := s4 _ _ n2 e2
    clear e4 lc nD lD hD B3 s3 B2 s4 g0 g1
    -- spot
    refine ⟨.ref b, rfl, _, rfl, _, cs.length, rfl, ⟨by rw [len_S]; exact Nat.le_trans lc' (by decide), (len_S cs).symm⟩, _, _, rfl, rfl, b, l, _, rfl, B4, by omega, by omega, fun H5 sp s5 B5 q0 q1 => ?_⟩
    replace s02 := s02.trans s5
    replace e1 := s5 _ _ n1 e1
    replace e2 := s5 _ _ n2 e2
    clear s5 B4
    refine ⟨.int 3, rfl, 3, rfl, by decide, by decide, for_range (lo := 0) (n := 3) (fun i σ H' => ∃ (y5 : Option V) (ls : List Nat) (zs : List Str), σ = [some (.ref b), some (.int 3), some (.ref p1), some (.ref p2), some (.str ⟨cs.toArray⟩), y5, some (.int sp)] ∧ Bag H' b l ∧ Stp b H H' ∧
      H' p1 = some (.lst (ls.map fun c => V.str ⟨#[c]⟩)) ∧ ls.length + i = 26 ∧ (∀ c ∈ ls, inL c = true) ∧ H' p2 = some (.lst (zs.map V.str)) ∧ zs.length = i ∧ ∀ z ∈ zs, Nm z)
      ⟨_, _, [], rfl, B5, s02, e1, by decide +kernel, (fun c m => by rw [← in_abc]; exact decide_eq_true m), e2, rfl, mem0⟩ ?_ ?_⟩
    · rintro i σ H6 hi ⟨y5, ls, zs, rfl, B6, s6, f1, ll, hl, f2, lz, hz⟩
      refine ⟨.ref p2, rfl, .inl ⟨rfl, _, SqL.of f2⟩, _, rfl, .int sp, rfl, sp, rfl, _, rfl, (by rw [len_S]; exact Nat.le_trans lc' (by decide)), ?_⟩
      rw [cut_to q0]
      refine ⟨.ref p1, rfl, .inl ⟨rfl, _, SqL.of f1⟩, .ref b, rfl, .ref p1, rfl, .ref p1, ls.length, rfl, .inl ⟨_, SqL.of f1, by rw [List.length_map]⟩, b, l, _, rfl, B6, by omega, by omega, fun H7 d s7 B7 d0 d1 => ?_⟩
      have hd : d.toNat < ls.length := by omega
      refine ⟨p1, _, d, d.toNat, .str ⟨#[ls[d.toNat]]⟩, rfl, rfl, s7 _ _ n1 f1, by omega, by omega, (by rw [List.length_map]; exact seqIndex_of d0 (by omega)), (by rw [List.getElem?_map, List.getElem?_eq_getElem hd]; rfl), ?_⟩
      refine ⟨_, _, rfl, rfl, (by rw [len_S]; show _ + 1 ≤ sizeLine; exact Nat.le_trans (show (cs.take sp.toNat).length + 1 ≤ 100 by rw [List.length_take]; omega) (by decide)), ?_⟩
      rw [show (⟨#[ls[d.toNat]]⟩ : Str) = ⟨[ls[d.toNat]].toArray⟩ from rfl, cat_S]
      refine ⟨_, rfl, .int sp, rfl, sp, rfl, _, rfl, (by rw [len_S]; exact Nat.le_trans lc' (by decide)), ?_⟩
      rw [cut_from q0]
      refine ⟨_, _, rfl, rfl, (by rw [len_S, len_S]; exact Nat.le_trans (show (cs.take sp.toNat ++ [ls[d.toNat]]).length + (cs.drop sp.toNat).length ≤ 100 by rw [List.length_append, List.length_take, List.length_drop, List.length_singleton]; omega) (by decide)), ?_⟩
      rw [cat_S]
      have g2 : (upd H7 p1 (.lst ((ls.map fun c => V.str ⟨#[c]⟩).eraseIdx d.toNat))) p2 = some (.lst (zs.map V.str)) := by
        rw [upd_ne n12.symm]
        exact s7 _ _ n2 f2
      refine ⟨p2, _, _, rfl, rfl, g2, (by rw [List.length_map, lz]; exact Nat.lt_of_lt_of_le (show i < 3 from hi) (by decide)), ?_⟩
      refine ⟨_, ls.eraseIdx d.toNat, zs ++ [_], rfl, (B7.put n1 l1).put n2 l2, ((s6.trans s7).putnew h1).putnew z2, ?_, ?_, fun c m => hl c (List.mem_of_mem_eraseIdx m), by rw [upd_same, List.map_append]; rfl, by rw [List.length_append, lz]; rfl, mema hz (mem1 ?_)⟩
      · rw [upd_ne n12, upd_same]
        rw [map_er]
      · rw [List.length_eraseIdx_of_lt hd]
        omega
      · refine ⟨?_, ?_, ?_⟩
        · simp
          omega
        · simp
          omega
        · rw [List.all_eq_true]
          intro c m
          have m : c ∈ (cs.take sp.toNat ++ [ls[d.toNat]]) ++ cs.drop sp.toNat := by simpa using m
          rcases List.mem_append.mp m with m | m
          · rcases List.mem_append.mp m with m | m
            · exact hc c (List.mem_of_mem_take m)
            · rw [List.mem_singleton.mp m]
              exact hl _ (List.getElem_mem hd)
          · exact hc c (List.mem_of_mem_drop m)
    · rintro σ H6 ⟨y5, ls, zs, rfl, B6, s6, f1, ll, hl, f2, lz, hz⟩
      exact ⟨.ref p2, rfl, k _ _ zs s6 B6 z2 n2 l2 f2 lz hz⟩
/-! ### _law_number, _law_r -/
def sp_law_number : Sp := fun vs H Q _ => ∃ (b l : Addr), vs = [.ref b] ∧ Bag H b l ∧ ∀ (H' : Hp) (i : Int), Stp b H H' → Bag H' b l → 0 ≤ i → i ≤ 65535 → Q (.int i) H'
theorem ok_law_number (T : Txt K w mg Z) : FnOk P w K mg base CX0 3 Z.a_law_number Z.d_law_number ["_law_bag_here"] sp_law_number := by
  have G_law_draw : FnOk P w K mg base CX0 1 Z.a_law_draw Z.d_law_draw ["_law_bag_here", "_law_sides"] sp_law_draw := ok_law_draw T
  have G_law_of : FnOk P w K mg base CX0 2 Z.a_law_of Z.d_law_of ["_law_bag_here", "_law_things"] (sp_law_of K) := ok_law_of T
  refine T.F_law_number.ok sc_law_number (fun vs H Q E h => ?_) (fun cdv A outer s H vs Q E hr h => ?_)
  · obtain ⟨b, l, rfl, _⟩ := h
    rfl
  · obtain ⟨b, l, rfl, B, k⟩ := h
    refine ⟨_, (pss_one (ps_ret (pe_call G_law_of (hr.mono (by omega)) (by rfl) T.m_law_of T.F_law_of.kp T.b_law_of .nil pass0 (pa_cons (pv 0) (pa_cons (pe_lst (pa_cons pe_int (pa_cons pe_int (pa_cons pe_int (pa_cons pe_int (pa_cons pe_int (pa_cons pe_int (pa_cons pe_int (pa_cons (pe_call G_law_draw (hr.mono (by omega)) (by rfl) T.m_law_draw T.F_law_draw.kp T.b_law_draw .nil pass0 (pa_cons (pv 0) (pa_cons pe_int pa_nil))) (pa_cons (pe_call G_law_draw (hr.mono (by omega)) (by rfl) T.m_law_draw T.F_law_draw.kp T.b_law_draw .nil pass0 (pa_cons (pv 0) (pa_cons pe_int pa_nil))) (pa_cons (pe_call G_law_draw (hr.mono (by omega)) (by rfl) T.m_law_draw T.F_law_draw.kp T.b_law_draw .nil pass0 (pa_cons (pv 0) (pa_cons pe_int pa_nil))) pa_nil))))))))))) pa_nil))))), ?_⟩
    refine ⟨.ref b, rfl, .ref b, rfl, b, l, 300, rfl, B, by decide, by decide, fun H1 d1 s1 B1 _ _ => ?_⟩
    refine ⟨.ref b, rfl, b, l, 65536, rfl, B1, by decide, by decide, fun H2 d2 s2 B2 _ _ => ?_⟩
    refine ⟨.ref b, rfl, b, l, 65536, rfl, B2, by decide, by decide, fun H3 d3 s3 B3 _ _ => ?_⟩
    refine ⟨(by show 10 ≤ sizeLine; decide), fun p hp => ?_⟩
    refine ⟨b, l, .ref p, fun v => ∃ i, v = .int i ∧ 0 ≤ i ∧ i ≤ 65535, rfl, B3.new hp, .lst (B3.ne hp) (SqL.of upd_same) (by show 0 < 10; decide) (by show 10 ≤ 100000; decide) ?_, fun H4 v s4 B4 hv => ?_⟩
    · exact memc ⟨_, rfl, by decide, by decide⟩ (memc ⟨_, rfl, by decide, by decide⟩ (memc ⟨_, rfl, by decide, by decide⟩ (memc ⟨_, rfl, by decide, by decide⟩ (memc ⟨_, rfl, by decide, by decide⟩ (memc ⟨_, rfl, by decide, by decide⟩ (memc ⟨_, rfl, by decide, by decide⟩ (memc ⟨_, rfl, by omega, by omega⟩ (memc ⟨_, rfl, by omega, by omega⟩ (mem1 ⟨_, rfl, by omega, by omega⟩)))))))))
    · obtain ⟨i, rfl, i0, i1⟩ := hv
      exact k _ _ ((((s1.trans s2).trans s3).trans (Stp.new hp)).trans s4) B4 i0 i1
def sp_law_r : Sp := fun vs H Q _ => ∃ (b l : Addr), vs = [.ref b] ∧ Bag H b l ∧ ∀ (H' : Hp) (v : V), Stp b H H' → Bag H' b l → v ∈ regs → Q v H'
theorem ok_law_r (T : Txt K w mg Z) : FnOk P w K mg base CX0 3 Z.a_law_r Z.d_law_r ["_law_bag_here"] sp_law_r := by
  have G_law_of : FnOk P w K mg base CX0 2 Z.a_law_of Z.d_law_of ["_law_bag_here", "_law_things"] (sp_law_of K) := ok_law_of T
  refine T.F_law_r.ok sc_law_r (fun vs H Q E h => ?_) (fun cdv A outer s H vs Q E hr h => ?_)
  · obtain ⟨b, l, rfl, _⟩ := h
    rfl
  · obtain ⟨b, l, rfl, B, k⟩ := h
    refine ⟨_, (pss_one (ps_ret (pe_call G_law_of (hr.mono (by omega)) (by rfl) T.m_law_of T.F_law_of.kp T.b_law_of .nil pass0 (pa_cons (pv 0) (pa_cons (pe_lst (pa_cons pe_str (pa_cons pe_str (pa_cons pe_str pa_nil)))) pa_nil))))), ?_⟩
    refine ⟨.ref b, rfl, (by show 3 ≤ sizeLine; decide), fun p hp => ?_⟩
    exact ⟨b, l, .ref p, fun v => v ∈ regs, rfl, B.new hp, .lst (B.ne hp) (SqL.of upd_same) (by show 0 < 3; decide) (by show 3 ≤ 100000; decide) (fun v m => m), fun H4 v s4 B4 hv => k _ _ ((Stp.new hp).trans s4) B4 hv⟩
end

section
variable {P : Program} {w : World} {K : PySem.W.Frag} {mg : Str → Option Value} {base : Heap} {Z : Fs}
/-! ### drawn rows -/
/-- the names at hand: a list of texts, not the bag -/
def Tls (H : Hp) (b t : Addr) (ts : List Str) : Prop := H t = some (.lst (ts.map V.str)) ∧ t ≠ b ∧ 0 < ts.length ∧ ts.length ≤ 1000
theorem Tls.stp {H H' : Hp} {b t : Addr} {ts : List Str} (s : Stp b H H') (h : Tls H b t ts) : Tls H' b t ts := ⟨s _ _ h.2.1 h.1, h.2⟩
theorem Tls.thg {H : Hp} {b t : Addr} {ts : List Str} (h : Tls H b t ts) : Thg K H b (.ref t) (fun v => ∃ z, v = .str z ∧ z ∈ ts) :=
  .lst h.2.1 (SqL.of h.1) (by rw [List.length_map]; exact h.2.2.1) (by rw [List.length_map]; exact Nat.le_trans h.2.2.2 (by decide)) fun v m => by
    obtain ⟨z, hz, rfl⟩ := List.mem_map.mp m
    exact ⟨z, rfl, hz⟩
def sp_law_code_row : Sp := fun vs H Q _ => ∃ (b l t : Addr) (ts : List Str), vs = [.ref b, .ref t] ∧ Bag H b l ∧ Tls H b t ts ∧ ∀ (H' : Hp) (a : Addr) (xs : List V), Stp b H H' → Bag H' b l → H' a = some (.tup xs) → a ≠ b → CRow ts xs → Q (.ref a) H'
theorem ok_law_code_row (T : Txt K w mg Z) : FnOk P w K mg base CX0 4 Z.a_law_code_row Z.d_law_code_row ["_law_bag_here", "_law_titles_here"] sp_law_code_row := by
  have G_law_draw : FnOk P w K mg base CX0 1 Z.a_law_draw Z.d_law_draw ["_law_bag_here", "_law_sides"] sp_law_draw := ok_law_draw T
  have G_law_of : FnOk P w K mg base CX0 2 Z.a_law_of Z.d_law_of ["_law_bag_here", "_law_things"] (sp_law_of K) := ok_law_of T
  have G_law_number : FnOk P w K mg base CX0 3 Z.a_law_number Z.d_law_number ["_law_bag_here"] sp_law_number := ok_law_number T
  have G_law_r : FnOk P w K mg base CX0 3 Z.a_law_r Z.d_law_r ["_law_bag_here"] sp_law_r := ok_law_r T
  refine T.F_law_code_row.ok sc_law_code_row (fun vs H Q E h => ?_) (fun cdv A outer s H vs Q E hr h => ?_)
  · obtain ⟨b, l, t, ts, rfl, _⟩ := h
    rfl
  · obtain ⟨b, l, t, ts, rfl, B, TT, k⟩ := h
    refine ⟨_, (pss_cons (ps_set (i := 2) sc_law_code_row.nd rfl (Or.inl rfl) (pe_call G_law_draw (hr.mono (by omega)) (by rfl) T.m_law_draw T.F_law_draw.kp T.b_law_draw .nil pass0 (pa_cons (pv 0) (pa_cons pe_int pa_nil))))
      (pss_cons (ps_if (pt_cmpR op_lt (pv 2) pe_int (nomark _)) (pss_one (ps_ret (pe_tup (pa_cons pe_str (pa_cons (pe_call G_law_r (hr.mono (by omega)) (by rfl) T.m_law_r T.F_law_r.kp T.b_law_r .nil pass0 (pa_cons (pv 0) pa_nil)) (pa_cons (pe_call G_law_number (hr.mono (by omega)) (by rfl) T.m_law_number T.F_law_number.kp T.b_law_number .nil pass0 (pa_cons (pv 0) pa_nil)) pa_nil)))))) pss_nil)
      (pss_cons (ps_if (pt_cmpR op_lt (pv 2) pe_int (nomark _)) (pss_one (ps_ret (pe_tup (pa_cons (pe_call G_law_of (hr.mono (by omega)) (by rfl) T.m_law_of T.F_law_of.kp T.b_law_of .nil pass0 (pa_cons (pv 0) (pa_cons (pe_lst (pa_cons pe_str (pa_cons pe_str pa_nil))) pa_nil))) (pa_cons (pe_call G_law_r (hr.mono (by omega)) (by rfl) T.m_law_r T.F_law_r.kp T.b_law_r .nil pass0 (pa_cons (pv 0) pa_nil)) (pa_cons (pe_call G_law_of (hr.mono (by omega)) (by rfl) T.m_law_of T.F_law_of.kp T.b_law_of .nil pass0 (pa_cons (pv 0) (pa_cons (pv 1) pa_nil))) pa_nil)))))) pss_nil)
      (pss_cons (ps_if (pt_cmpR op_lt (pv 2) pe_int (nomark _)) (pss_one (ps_ret (pe_tup (pa_cons (pe_call G_law_of (hr.mono (by omega)) (by rfl) T.m_law_of T.F_law_of.kp T.b_law_of .nil pass0 (pa_cons (pv 0) (pa_cons (pe_lst (pa_cons pe_str (pa_cons pe_str pa_nil))) pa_nil))) (pa_cons (pe_call G_law_r (hr.mono (by omega)) (by rfl) T.m_law_r T.F_law_r.kp T.b_law_r .nil pass0 (pa_cons (pv 0) pa_nil)) (pa_cons (pe_call G_law_r (hr.mono (by omega)) (by rfl) T.m_law_r T.F_law_r.kp T.b_law_r .nil pass0 (pa_cons (pv 0) pa_nil)) pa_nil)))))) pss_nil)
      (pss_cons (ps_if (pt_cmpR op_lt (pv 2) pe_int (nomark _)) (pss_one (ps_ret (pe_tup (pa_cons (pe_call G_law_of (hr.mono (by omega)) (by rfl) T.m_law_of T.F_law_of.kp T.b_law_of .nil pass0 (pa_cons (pv 0) (pa_cons (pe_lst (pa_cons pe_str (pa_cons pe_str pa_nil))) pa_nil))) (pa_cons (pe_call G_law_r (hr.mono (by omega)) (by rfl) T.m_law_r T.F_law_r.kp T.b_law_r .nil pass0 (pa_cons (pv 0) pa_nil)) (pa_cons (pe_call G_law_r (hr.mono (by omega)) (by rfl) T.m_law_r T.F_law_r.kp T.b_law_r .nil pass0 (pa_cons (pv 0) pa_nil)) (pa_cons (pe_call G_law_of (hr.mono (by omega)) (by rfl) T.m_law_of T.F_law_of.kp T.b_law_of .nil pass0 (pa_cons (pv 0) (pa_cons (pe_lst (pa_cons pe_int (pa_cons pe_int (pa_cons (pe_call G_law_draw (hr.mono (by omega)) (by rfl) T.m_law_draw T.F_law_draw.kp T.b_law_draw .nil pass0 (pa_cons (pv 0) (pa_cons pe_int pa_nil))) pa_nil)))) pa_nil))) pa_nil))))))) pss_nil)
      (pss_cons (ps_if (pt_cmpR op_lt (pv 2) pe_int (nomark _)) (pss_one (ps_ret (pe_tup (pa_cons (pe_call G_law_of (hr.mono (by omega)) (by rfl) T.m_law_of T.F_law_of.kp T.b_law_of .nil pass0 (pa_cons (pv 0) (pa_cons (pe_lst (pa_cons pe_str (pa_cons pe_str pa_nil))) pa_nil))) (pa_cons (pe_call G_law_of (hr.mono (by omega)) (by rfl) T.m_law_of T.F_law_of.kp T.b_law_of .nil pass0 (pa_cons (pv 0) (pa_cons (pv 1) pa_nil))) pa_nil))))) pss_nil)
      (pss_cons (ps_if (pt_cmpR op_lt (pv 2) pe_int (nomark _)) (pss_one (ps_ret (pe_tup (pa_cons (pe_call G_law_of (hr.mono (by omega)) (by rfl) T.m_law_of T.F_law_of.kp T.b_law_of .nil pass0 (pa_cons (pv 0) (pa_cons (pe_lst (pa_cons pe_str (pa_cons pe_str pa_nil))) pa_nil))) (pa_cons (pe_call G_law_r (hr.mono (by omega)) (by rfl) T.m_law_r T.F_law_r.kp T.b_law_r .nil pass0 (pa_cons (pv 0) pa_nil)) pa_nil))))) pss_nil)
      (pss_one (ps_ret (pe_call G_law_of (hr.mono (by omega)) (by rfl) T.m_law_of T.F_law_of.kp T.b_law_of .nil pass0 (pa_cons (pv 0) (pa_cons (pe_lst (pa_cons (pe_tup (pa_cons pe_str pa_nil)) (pa_cons (pe_tup (pa_cons pe_str pa_nil)) (pa_cons (pe_tup (pa_cons pe_str (pa_cons (pe_call G_law_of (hr.mono (by omega)) (by rfl) T.m_law_of T.F_law_of.kp T.b_law_of .nil pass0 (pa_cons (pv 0) (pa_cons (pe_lst (pa_cons pe_int (pa_cons pe_int (pa_cons pe_int (pa_cons pe_int pa_nil))))) pa_nil))) pa_nil))) pa_nil)))) pa_nil)))))))))))), ?_⟩
    refine ⟨.ref b, rfl, b, l, 14, rfl, B, by decide, by decide, fun H0 d s0 B0 _ _ => ?_⟩
    have T0 := TT.stp s0
    refine ⟨_, rfl, _, _, rfl, rfl, _, rfl, ite2 (fun _ => ?_) (fun _ => ?_)⟩
    · -- put
      refine ⟨.ref b, rfl, b, l, rfl, B0, fun H1 r s1 B1 hr1 => ⟨.ref b, rfl, b, l, rfl, B1, fun H2 n s2 B2 n0 n1 => ⟨(by show 3 ≤ sizeLine; decide), fun p hp => ?_⟩⟩⟩
      exact k _ p _ (((s0.trans s1).trans s2).trans (Stp.new hp)) (B2.new hp) upd_same (B2.ne hp) (.put hr1 n0 n1)
    refine ⟨_, rfl, _, _, rfl, rfl, _, rfl, ite2 (fun _ => ?_) (fun _ => ?_)⟩
    · -- name, ifzero
      refine ⟨.ref b, rfl, (by show 2 ≤ sizeLine; decide), fun q hq => ⟨b, l, .ref q, fun v => v ∈ [V.str "name", V.str "ifzero"], rfl, B0.new hq, .lst (B0.ne hq) (SqL.of upd_same) (by show 0 < 2; decide) (by show 2 ≤ 100000; decide) (fun v m => m), fun H1 v s1 B1 hv => ?_⟩⟩
      replace s1 := (Stp.new hq).trans s1
      refine ⟨.ref b, rfl, b, l, rfl, B1, fun H2 r s2 B2 hr2 => ?_⟩
      have T2 := (T0.stp s1).stp s2
      refine ⟨.ref b, rfl, .ref t, rfl, b, l, .ref t, _, rfl, B2, T2.thg, fun H3 u s3 B3 hu => ?_⟩
      obtain ⟨z, rfl, hz⟩ := hu
      refine ⟨(by show 3 ≤ sizeLine; decide), fun p hp => ?_⟩
      have ss := (((s0.trans s1).trans s2).trans s3).trans (Stp.new (o := .tup [v, r, .str z]) hp)
      rcases List.mem_cons.mp hv with rfl | hv
      · exact k _ p _ ss (B3.new hp) upd_same (B3.ne hp) (.name hr2 hz)
      · rw [List.mem_singleton.mp hv] at ss ⊢
        exact k _ p _ ss (B3.new hp) upd_same (B3.ne hp) (.ifzero hr2 hz)
    refine ⟨_, rfl, _, _, rfl, rfl, _, rfl, ite2 (fun _ => ?_) (fun _ => ?_)⟩
    · -- add, take
      refine ⟨.ref b, rfl, (by show 2 ≤ sizeLine; decide), fun q hq => ⟨b, l, .ref q, fun v => v ∈ [V.str "add", V.str "take"], rfl, B0.new hq, .lst (B0.ne hq) (SqL.of upd_same) (by show 0 < 2; decide) (by show 2 ≤ 100000; decide) (fun v m => m), fun H1 v s1 B1 hv => ?_⟩⟩
      replace s1 := (Stp.new hq).trans s1
      refine ⟨.ref b, rfl, b, l, rfl, B1, fun H2 r s2 B2 hr2 => ⟨.ref b, rfl, b, l, rfl, B2, fun H3 r3 s3 B3 hr3 => ⟨(by show 3 ≤ sizeLine; decide), fun p hp => ?_⟩⟩⟩
      have ss := (((s0.trans s1).trans s2).trans s3).trans (Stp.new (o := .tup [v, r, r3]) hp)
      rcases List.mem_cons.mp hv with rfl | hv
      · exact k _ p _ ss (B3.new hp) upd_same (B3.ne hp) (.add hr2 hr3)
      · rw [List.mem_singleton.mp hv] at ss ⊢
        exact k _ p _ ss (B3.new hp) upd_same (B3.ne hp) (.take hr2 hr3)
    refine ⟨_, rfl, _, _, rfl, rfl, _, rfl, ite2 (fun _ => ?_) (fun _ => ?_)⟩
    · -- load, store
      refine ⟨.ref b, rfl, (by show 2 ≤ sizeLine; decide), fun q hq => ⟨b, l, .ref q, fun v => v ∈ [V.str "load", V.str "store"], rfl, B0.new hq, .lst (B0.ne hq) (SqL.of upd_same) (by show 0 < 2; decide) (by show 2 ≤ 100000; decide) (fun v m => m), fun H1 v s1 B1 hv => ?_⟩⟩
      replace s1 := (Stp.new hq).trans s1
      refine ⟨.ref b, rfl, b, l, rfl, B1, fun H2 r s2 B2 hr2 => ⟨.ref b, rfl, b, l, rfl, B2, fun H3 r3 s3 B3 hr3 => ?_⟩⟩
      refine ⟨.ref b, rfl, .ref b, rfl, b, l, 16, rfl, B3, by decide, by decide, fun H4 d4 s4 B4 g0 g1 => ⟨(by show 3 ≤ sizeLine; decide), fun q4 hq4 => ?_⟩⟩
      refine ⟨b, l, .ref q4, fun v => ∃ i, v = .int i ∧ 0 ≤ i ∧ i ≤ 15, rfl, B4.new hq4, .lst (B4.ne hq4) (SqL.of upd_same) (by show 0 < 3; decide) (by show 3 ≤ 100000; decide) (memc ⟨_, rfl, by decide, by decide⟩ (memc ⟨_, rfl, by decide, by decide⟩ (mem1 ⟨_, rfl, by omega, by omega⟩))), fun H5 u s5 B5 hu => ?_⟩
      obtain ⟨i, rfl, i0, i1⟩ := hu
      replace s5 := (s4.trans (Stp.new hq4)).trans s5
      refine ⟨(by show 4 ≤ sizeLine; decide), fun p hp => ?_⟩
      have ss := ((((s0.trans s1).trans s2).trans s3).trans s5).trans (Stp.new (o := .tup [v, r, r3, .int i]) hp)
      rcases List.mem_cons.mp hv with rfl | hv
      · exact k _ p _ ss (B5.new hp) upd_same (B5.ne hp) (.load hr2 hr3 i0 i1)
      · rw [List.mem_singleton.mp hv] at ss ⊢
        exact k _ p _ ss (B5.new hp) upd_same (B5.ne hp) (.store hr2 hr3 i0 i1)
    refine ⟨_, rfl, _, _, rfl, rfl, _, rfl, ite2 (fun _ => ?_) (fun _ => ?_)⟩
    · -- jump, call
      refine ⟨.ref b, rfl, (by show 2 ≤ sizeLine; decide), fun q hq => ⟨b, l, .ref q, fun v => v ∈ [V.str "jump", V.str "call"], rfl, B0.new hq, .lst (B0.ne hq) (SqL.of upd_same) (by show 0 < 2; decide) (by show 2 ≤ 100000; decide) (fun v m => m), fun H1 v s1 B1 hv => ?_⟩⟩
      replace s1 := (Stp.new hq).trans s1
      have T1 := T0.stp s1
      refine ⟨.ref b, rfl, .ref t, rfl, b, l, .ref t, _, rfl, B1, T1.thg, fun H3 u s3 B3 hu => ?_⟩
      obtain ⟨z, rfl, hz⟩ := hu
      refine ⟨(by show 2 ≤ sizeLine; decide), fun p hp => ?_⟩
      have ss := ((s0.trans s1).trans s3).trans (Stp.new (o := .tup [v, .str z]) hp)
      rcases List.mem_cons.mp hv with rfl | hv
      · exact k _ p _ ss (B3.new hp) upd_same (B3.ne hp) (.jump hz)
      · rw [List.mem_singleton.mp hv] at ss ⊢
        exact k _ p _ ss (B3.new hp) upd_same (B3.ne hp) (.call hz)
    refine ⟨_, rfl, _, _, rfl, rfl, _, rfl, ite2 (fun _ => ?_) (fun _ => ?_)⟩
    · -- callby, out
      refine ⟨.ref b, rfl, (by show 2 ≤ sizeLine; decide), fun q hq => ⟨b, l, .ref q, fun v => v ∈ [V.str "callby", V.str "out"], rfl, B0.new hq, .lst (B0.ne hq) (SqL.of upd_same) (by show 0 < 2; decide) (by show 2 ≤ 100000; decide) (fun v m => m), fun H1 v s1 B1 hv => ?_⟩⟩
      replace s1 := (Stp.new hq).trans s1
      refine ⟨.ref b, rfl, b, l, rfl, B1, fun H2 r s2 B2 hr2 => ⟨(by show 2 ≤ sizeLine; decide), fun p hp => ?_⟩⟩
      have ss := ((s0.trans s1).trans s2).trans (Stp.new (o := .tup [v, r]) hp)
      rcases List.mem_cons.mp hv with rfl | hv
      · exact k _ p _ ss (B2.new hp) upd_same (B2.ne hp) (.callby hr2)
      · rw [List.mem_singleton.mp hv] at ss ⊢
        exact k _ p _ ss (B2.new hp) upd_same (B2.ne hp) (.out hr2)
    · -- back, halt, room
      refine ⟨.ref b, rfl, (by show 1 ≤ sizeLine; decide), fun p1 h1 => ?_⟩
      have n1 := B0.ne h1
      have s1 : Same H0 (upd H0 p1 (.tup [V.str "back"])) := Same.new h1
      have e1 : (upd H0 p1 (.tup [V.str "back"])) p1 = some (.tup [V.str "back"]) := upd_same
      generalize upd H0 p1 (.tup [V.str "back"]) = H1 at s1 e1 ⊢
      have B1 := B0.same s1
      refine ⟨(by show 1 ≤ sizeLine; decide), fun p2 h2 => ?_⟩
      have n2 := B1.ne h2
      have s2 : Same H1 (upd H1 p2 (.tup [V.str "halt"])) := Same.new h2
      have e2 : (upd H1 p2 (.tup [V.str "halt"])) p2 = some (.tup [V.str "halt"]) := upd_same
      generalize upd H1 p2 (.tup [V.str "halt"]) = H2 at s2 e2 ⊢
      have B2 := B1.same s2
      refine ⟨.ref b, rfl, (by show 4 ≤ sizeLine; decide), fun q hq => ⟨b, l, .ref q, fun v => ∃ i, v = .int i ∧ 1 ≤ i ∧ i ≤ 120, rfl, B2.new hq, .lst (B2.ne hq) (SqL.of upd_same) (by show 0 < 4; decide) (by show 4 ≤ 100000; decide) (memc ⟨_, rfl, by decide, by decide⟩ (memc ⟨_, rfl, by decide, by decide⟩ (memc ⟨_, rfl, by decide, by decide⟩ (mem1 ⟨_, rfl, by decide, by decide⟩)))), fun H3 u s3 B3 hu => ?_⟩⟩
      obtain ⟨i, rfl, i0, i1⟩ := hu
      replace s3 := (Stp.new hq).trans s3
      refine ⟨(by show 2 ≤ sizeLine; decide), fun p3 h3 => ?_⟩
      have n3 := B3.ne h3
      have s4 : Same H3 (upd H3 p3 (.tup [V.str "room", V.int i])) := Same.new h3
      have e4 : (upd H3 p3 (.tup [V.str "room", V.int i])) p3 = some (.tup [V.str "room", V.int i]) := upd_same
      generalize upd H3 p3 (.tup [V.str "room", V.int i]) = H4 at s4 e4 ⊢
      have B4 := B3.same s4
      refine ⟨(by show 3 ≤ sizeLine; decide), fun q4 hq4 => ?_⟩
      have u1 : Stp b H0 H4 := ((Same.stp (s1.trans s2)).trans s3).trans (Same.stp s4)
      have f2 : H4 p2 = some (.tup [V.str "halt"]) := s4 _ _ (s3 _ _ n2 e2)
      have f1 : H4 p1 = some (.tup [V.str "back"]) := s4 _ _ (s3 _ _ n1 (s2 _ _ e1))
      refine ⟨b, l, .ref q4, fun v => ∃ (a : Addr) (xs : List V), v = .ref a ∧ H4 a = some (.tup xs) ∧ a ≠ b ∧ CRow ts xs, rfl, B4.new hq4, .lst (B4.ne hq4) (SqL.of upd_same) (by show 0 < 3; decide) (by show 3 ≤ 100000; decide) (memc ⟨_, _, rfl, f1, n1, .back⟩ (memc ⟨_, _, rfl, f2, n2, .halt⟩ (mem1 ⟨_, _, rfl, e4, n3, .room i0 i1⟩))), fun H5 u s5 B5 hu => ?_⟩
      obtain ⟨a, xs, rfl, ea, na, hx⟩ := hu
      exact k _ a xs (((s0.trans u1).trans (Stp.new hq4)).trans s5) B5 (s5 _ _ na ((Stp.new hq4) _ _ na ea)) na hx
def sp_law_data_row : Sp := fun vs H Q _ => ∃ (b l t : Addr) (ts : List Str), vs = [.ref b, .ref t] ∧ Bag H b l ∧ Tls H b t ts ∧ ∀ (H' : Hp) (a : Addr) (xs : List V), Stp b H H' → Bag H' b l → H' a = some (.tup xs) → a ≠ b → DRow ts xs → Q (.ref a) H'
theorem ok_law_data_row (T : Txt K w mg Z) : FnOk P w K mg base CX0 4 Z.a_law_data_row Z.d_law_data_row ["_law_bag_here", "_law_titles_here"] sp_law_data_row := by
  have G_law_draw : FnOk P w K mg base CX0 1 Z.a_law_draw Z.d_law_draw ["_law_bag_here", "_law_sides"] sp_law_draw := ok_law_draw T
  have G_law_of : FnOk P w K mg base CX0 2 Z.a_law_of Z.d_law_of ["_law_bag_here", "_law_things"] (sp_law_of K) := ok_law_of T
  have G_law_number : FnOk P w K mg base CX0 3 Z.a_law_number Z.d_law_number ["_law_bag_here"] sp_law_number := ok_law_number T
  refine T.F_law_data_row.ok sc_law_data_row (fun vs H Q E h => ?_) (fun cdv A outer s H vs Q E hr h => ?_)
  · obtain ⟨b, l, t, ts, rfl, _⟩ := h
    rfl
  · obtain ⟨b, l, t, ts, rfl, B, TT, k⟩ := h
    refine ⟨_, (pss_cons (ps_set (i := 2) sc_law_data_row.nd rfl (Or.inl rfl) (pe_call G_law_draw (hr.mono (by omega)) (by rfl) T.m_law_draw T.F_law_draw.kp T.b_law_draw .nil pass0 (pa_cons (pv 0) (pa_cons pe_int pa_nil))))
      (pss_cons (ps_if (pt_cmpR op_eq (pv 2) pe_int (nomark _)) (pss_one (ps_ret (pe_tup (pa_cons pe_str (pa_cons (pe_call G_law_number (hr.mono (by omega)) (by rfl) T.m_law_number T.F_law_number.kp T.b_law_number .nil pass0 (pa_cons (pv 0) pa_nil)) pa_nil))))) pss_nil)
      (pss_one (ps_ret (pe_ifExp (pt_cmpR op_eq (pv 2) pe_int (nomark _)) (pe_tup (pa_cons pe_str (pa_cons (pe_call G_law_of (hr.mono (by omega)) (by rfl) T.m_law_of T.F_law_of.kp T.b_law_of .nil pass0 (pa_cons (pv 0) (pa_cons (pv 1) pa_nil))) pa_nil))) (pe_tup (pa_cons pe_str (pa_cons (pe_call G_law_of (hr.mono (by omega)) (by rfl) T.m_law_of T.F_law_of.kp T.b_law_of .nil pass0 (pa_cons (pv 0) (pa_cons (pe_lst (pa_cons pe_int (pa_cons pe_int (pa_cons pe_int (pa_cons pe_int pa_nil))))) pa_nil))) pa_nil)))))))), ?_⟩
    refine ⟨.ref b, rfl, b, l, 3, rfl, B, by decide, by decide, fun H0 d s0 B0 _ _ => ?_⟩
    have T0 := TT.stp s0
    refine ⟨_, rfl, rfl, _, rfl, ite2 (fun _ => ?_) (fun _ => ?_)⟩
    · refine ⟨.ref b, rfl, b, l, rfl, B0, fun H2 n s2 B2 n0 n1 => ⟨(by show 2 ≤ sizeLine; decide), fun p hp => ?_⟩⟩
      exact k _ p _ ((s0.trans s2).trans (Stp.new hp)) (B2.new hp) upd_same (B2.ne hp) (.word n0 n1)
    refine ⟨_, rfl, rfl, _, rfl, ite2 (fun _ => ?_) (fun _ => ?_)⟩
    · refine ⟨.ref b, rfl, .ref t, rfl, b, l, .ref t, _, rfl, B0, T0.thg, fun H3 u s3 B3 hu => ?_⟩
      obtain ⟨z, rfl, hz⟩ := hu
      refine ⟨(by show 2 ≤ sizeLine; decide), fun p hp => ?_⟩
      exact k _ p _ ((s0.trans s3).trans (Stp.new hp)) (B3.new hp) upd_same (B3.ne hp) (.address hz)
    · refine ⟨.ref b, rfl, (by show 4 ≤ sizeLine; decide), fun q hq => ⟨b, l, .ref q, fun v => ∃ i, v = .int i ∧ 1 ≤ i ∧ i ≤ 120, rfl, B0.new hq, .lst (B0.ne hq) (SqL.of upd_same) (by show 0 < 4; decide) (by show 4 ≤ 100000; decide) (memc ⟨_, rfl, by decide, by decide⟩ (memc ⟨_, rfl, by decide, by decide⟩ (memc ⟨_, rfl, by decide, by decide⟩ (mem1 ⟨_, rfl, by decide, by decide⟩)))), fun H3 u s3 B3 hu => ?_⟩⟩
      obtain ⟨i, rfl, i0, i1⟩ := hu
      replace s3 := (Stp.new hq).trans s3
      refine ⟨(by show 2 ≤ sizeLine; decide), fun p hp => ?_⟩
      exact k _ p _ ((s0.trans s3).trans (Stp.new hp)) (B3.new hp) upd_same (B3.ne hp) (.room i0 i1)
end

/-! ### sizes and fields of rows, as plain functions -/
def W16 : List Str := ["put", "name", "add", "take", "load", "store", "jump", "ifzero", "call", "callby", "back", "out", "halt", "room", "word", "address"]
def AnyRow (ts : List Str) (xs : List V) : Prop := CRow ts xs ∨ DRow ts xs
/-- the count of a row of room, else 0 -/
def cnt : List V → Int
  | .int k :: _ => k
  | _ => 0
theorem AnyRow.word {ts : List Str} {xs : List V} (h : AnyRow ts xs) : ∃ (u : Str) (r : List V), xs = .str u :: r ∧ u ∈ W16 ∧ (u = "room" → ∃ k, r = [.int k]) := by
  rcases h with h | h
  · cases h with
    | put => exact ⟨_, _, rfl, by decide +kernel, fun e => absurd e (by decide +kernel)⟩
    | name => exact ⟨_, _, rfl, by decide +kernel, fun e => absurd e (by decide +kernel)⟩
    | ifzero => exact ⟨_, _, rfl, by decide +kernel, fun e => absurd e (by decide +kernel)⟩
    | add => exact ⟨_, _, rfl, by decide +kernel, fun e => absurd e (by decide +kernel)⟩
    | take => exact ⟨_, _, rfl, by decide +kernel, fun e => absurd e (by decide +kernel)⟩
    | load => exact ⟨_, _, rfl, by decide +kernel, fun e => absurd e (by decide +kernel)⟩
    | store => exact ⟨_, _, rfl, by decide +kernel, fun e => absurd e (by decide +kernel)⟩
    | jump => exact ⟨_, _, rfl, by decide +kernel, fun e => absurd e (by decide +kernel)⟩
    | call => exact ⟨_, _, rfl, by decide +kernel, fun e => absurd e (by decide +kernel)⟩
    | callby => exact ⟨_, _, rfl, by decide +kernel, fun e => absurd e (by decide +kernel)⟩
    | out => exact ⟨_, _, rfl, by decide +kernel, fun e => absurd e (by decide +kernel)⟩
    | back => exact ⟨_, _, rfl, by decide +kernel, fun e => absurd e (by decide +kernel)⟩
    | halt => exact ⟨_, _, rfl, by decide +kernel, fun e => absurd e (by decide +kernel)⟩
    | room => exact ⟨_, _, rfl, by decide +kernel, fun _ => ⟨_, rfl⟩⟩
  · cases h with
    | word => exact ⟨_, _, rfl, by decide +kernel, fun e => absurd e (by decide +kernel)⟩
    | address => exact ⟨_, _, rfl, by decide +kernel, fun e => absurd e (by decide +kernel)⟩
    | room => exact ⟨_, _, rfl, by decide +kernel, fun _ => ⟨_, rfl⟩⟩
def longV (u : Str) : Option Int := if u = "name" then some 2 else if u = "jump" then some 3 else if u = "ifzero" then some 5 else if u = "call" then some 3 else none
def highV (u : Str) : Option Int := if u = "name" then some 0 else if u = "jump" then some 0 else if u = "ifzero" then some 2 else if u = "call" then some 0 else none
/-- the size of a row: its word, its count, the form -/
def rsz (u : Str) (k : Int) (far : Bool) : Int := if u = "room" then k else if u = "put" then 2 else if far = true ∧ (longV u).isSome = true then (longV u).getD 0 else 1
def fdw (u : Str) (far : Bool) : List (Int × Str) := if u = "address" then [(0, "whole")] else if far = true ∧ (highV u).isSome = true then [((highV u).getD 0, "high"), ((highV u).getD 0 + 1, "low")] else []
def tab (u : Str) : Int × Int := if u = "put" then (2, 2) else if u = "name" then (1, 2) else if u = "jump" then (1, 3) else if u = "ifzero" then (1, 5) else if u = "call" then (1, 3) else (1, 1)
theorem tab_rsz : ∀ u ∈ W16, ∀ far : Bool, u ≠ "room" → (if far = true then (tab u).2 else (tab u).1) = rsz u 0 far := by decide +kernel
theorem rsz_k {u : Str} {k : Int} {far : Bool} (h : u ≠ "room") : rsz u k far = rsz u 0 far := by
  unfold rsz
  rw [if_neg h, if_neg h]
/-- a list at a of the pairs ps -/
def FdAt (H : Hp) (a : Addr) (ps : List (Int × Str)) : Prop := ∃ as : List Addr, H a = some (.lst (as.map V.ref)) ∧ as.length = ps.length ∧ ps.length ≤ 10 ∧ ∀ (i : Nat) (q : Addr) (p : Int × Str), as[i]? = some q → ps[i]? = some p → H q = some (.tup [.int p.1, .str p.2])
theorem FdAt.stp {c : Addr} {H H' : Hp} {a : Addr} {ps : List (Int × Str)} (s : Stp c H H') (n : a ≠ c) (hc : ∀ xs, H c ≠ some (.tup xs)) (h : FdAt H a ps) : FdAt H' a ps := by
  obtain ⟨as, h1, h2, h4, h3⟩ := h
  exact ⟨as, s _ _ n h1, h2, h4, fun i q p hq hp => s _ _ (fun e => hc _ (e ▸ h3 i q p hq hp)) (h3 i q p hq hp)⟩
theorem FdAt.same {H H' : Hp} {a : Addr} {ps : List (Int × Str)} (s : Same H H') (h : FdAt H a ps) : FdAt H' a ps := by
  obtain ⟨as, h1, h2, h4, h3⟩ := h
  exact ⟨as, s _ _ h1, h2, h4, fun i q p hq hp => s _ _ (h3 i q p hq hp)⟩
theorem FdAt.eqd {K : PySem.W.Frag} {H : Hp} {a c : Addr} {ps : List (Int × Str)} (h : FdAt H a ps) (g : FdAt H c ps) : Eqd K H 2 (.ref a) (.ref c) := by
  obtain ⟨as, h1, h2, h4, h3⟩ := h
  obtain ⟨cs, g1, g2, _, g3⟩ := g
  refine .inr ⟨a, c, _, _, rfl, rfl, .inl ⟨SqL.of h1, SqL.of g1⟩, by rw [List.length_map, List.length_map, h2, g2], by rw [List.length_map, h2]; omega, fun i u v hu hv => ?_⟩
  rw [List.getElem?_map] at hu hv
  cases e1 : as[i]? with
  | none => rw [e1] at hu; cases hu
  | some q =>
    cases e2 : cs[i]? with
    | none => rw [e2] at hv; cases hv
    | some r =>
      rw [e1] at hu
      rw [e2] at hv
      cases hu
      cases hv
      obtain ⟨p, hp⟩ : ∃ p, ps[i]? = some p := by
        have hi := (List.getElem?_eq_some_iff.mp e1).1
        exact ⟨ps[i], List.getElem?_eq_getElem (by omega)⟩
      exact Eqd.tups (SqT.of (h3 i q p e1 hp)) (SqT.of (g3 i r p e2 hp)) (by show 2 ≤ 100000; decide) (memc (Eqd.flat rfl) (mem1 (Eqd.flat rfl)))
theorem FdAt.nil {H : Hp} {a : Addr} (h : H a = some (.lst [])) : FdAt H a [] := ⟨[], h, rfl, by decide, fun i q p hq _ => by cases hq⟩
theorem FdAt.one {H : Hp} {a q : Addr} {p : Int × Str} (h : H a = some (.lst [.ref q])) (hq : H q = some (.tup [.int p.1, .str p.2])) : FdAt H a [p] := ⟨[q], h, rfl, by show 1 ≤ 10; decide, fun i c d hc hd => by
  match i with
  | 0 => cases hc; cases hd; exact hq
  | i + 1 => cases hc⟩
theorem FdAt.two {H : Hp} {a q r : Addr} {p o : Int × Str} (h : H a = some (.lst [.ref q, .ref r])) (hq : H q = some (.tup [.int p.1, .str p.2])) (hr : H r = some (.tup [.int o.1, .str o.2])) : FdAt H a [p, o] := ⟨[q, r], h, rfl, by show 2 ≤ 10; decide, fun i c d hc hd => by
  match i with
  | 0 => cases hc; cases hd; exact hq
  | 1 => cases hc; cases hd; exact hr
  | i + 2 => cases hc⟩
section
variable {P : Program} {w : World} {K : PySem.W.Frag} {mg : Str → Option Value} {base : Heap} {Z : Fs}
theorem long_at (T : Txt K w mg Z) (u : Str) : ∃ r, PySem.W.nsIn K Z.c_LONG_SIZES u = some r ∧ RelOpt RelV ((longV u).map V.int) r := by
  obtain ⟨r, h1, h2⟩ := T.x_LONG_SIZES u
  have e : findT tb_LONG_SIZES u = (longV u).map V.int := by
    unfold findT tb_LONG_SIZES longV
    by_cases a1 : u = "name"
    · subst a1; decide +kernel
    by_cases a2 : u = "jump"
    · subst a2; decide +kernel
    by_cases a3 : u = "ifzero"
    · subst a3; decide +kernel
    by_cases a4 : u = "call"
    · subst a4; decide +kernel
    simp [a1, a2, a3, a4, Ne.symm a1, Ne.symm a2, Ne.symm a3, Ne.symm a4]
  rw [e] at h2
  exact ⟨r, h1, h2⟩
theorem high_at (T : Txt K w mg Z) (u : Str) : ∃ r, PySem.W.nsIn K Z.c_HIGH_CELLS u = some r ∧ RelOpt RelV ((highV u).map V.int) r := by
  obtain ⟨r, h1, h2⟩ := T.x_HIGH_CELLS u
  have e : findT tb_HIGH_CELLS u = (highV u).map V.int := by
    unfold findT tb_HIGH_CELLS highV
    by_cases a1 : u = "name"
    · subst a1; decide +kernel
    by_cases a2 : u = "jump"
    · subst a2; decide +kernel
    by_cases a3 : u = "ifzero"
    · subst a3; decide +kernel
    by_cases a4 : u = "call"
    · subst a4; decide +kernel
    simp [a1, a2, a3, a4, Ne.symm a1, Ne.symm a2, Ne.symm a3, Ne.symm a4]
  rw [e] at h2
  exact ⟨r, h1, h2⟩
theorem relO_some {v : Option Int} {r : Option Value} (h : RelOpt RelV (v.map V.int) r) : r.isSome = v.isSome ∧ ∀ i, v = some i → ∃ u, r = some u ∧ RelV (.int i) u := by
  cases v with
  | none =>
    cases r with
    | none => exact ⟨rfl, fun i e => nomatch e⟩
    | some u => exact h.elim
  | some i =>
    cases r with
    | none => exact h.elim
    | some u => exact ⟨rfl, fun j e => by cases e; exact ⟨u, rfl, h⟩⟩
/-! ### row_size, row_fields -/
def sp_row_size (K : PySem.W.Frag) : Sp := fun vs H Q _ => ∃ (a : Addr) (u : Str) (r : List V) (far : Bool), vs = [.ref a, .bl far] ∧ SqT K H a (.str u :: r) ∧ u ∈ W16 ∧ (u = "room" → ∃ k, r = [.int k]) ∧ ∀ H' : Hp, Same H H' → Q (.int (rsz u (cnt r) far)) H'
theorem ok_row_size (T : Txt K w mg Z) : FnOk P w K mg base CX0 1 Z.a_row_size Z.d_row_size ["row", "long"] (sp_row_size K) := by
  refine T.F_row_size.ok sc_row_size (fun vs H Q E h => ?_) (fun cdv A outer s H vs Q E hr h => ?_)
  · obtain ⟨a, u, r, far, rfl, _⟩ := h
    rfl
  · obtain ⟨a, u, r, far, rfl, hS, hu, hk, k⟩ := h
    refine ⟨_, (pss_cons (ps_set (i := 2) sc_row_size.nd rfl (Or.inl rfl) (pe_ix ix_tup (pv 0) pe_int (fun _ _ => rfl)))
      (pss_cons (ps_if (pt_cmpR op_eq (pv 2) pe_str (nomark _)) (pss_one (ps_ret (pe_ix ix_tup (pv 0) pe_int (fun _ _ => rfl)))) pss_nil)
      (pss_cons (ps_if (pt_cmpR op_eq (pv 2) pe_str (nomark _)) (pss_one (ps_ret pe_int)) pss_nil)
      (pss_cons (ps_if (PW.pt (pw_and (pt_val (pv 1)) (pw_and1 (pt_cmpR (op_in_kd T.D_LONG_SIZES) (pv 2) (pe_glob (v := .ref Z.c_LONG_SIZES) (by rfl) T.g_LONG_SIZES rfl) (by rfl))))) (pss_one (ps_ret (pe_ix ix_kdict (pe_glob (v := .ref Z.c_LONG_SIZES) (by rfl) T.g_LONG_SIZES rfl) (pv 2) (fun _ _ => rfl)))) pss_nil)
      (pss_one (ps_ret pe_int)))))), ?_⟩
    refine ⟨.ref a, rfl, a, _, 0, .str u, rfl, rfl, hS, atI_nat (j := 0) rfl, ?_⟩
    refine ⟨.str u, rfl, rfl, _, rfl, ite2 (fun h1 => ?_) (fun h1 => ?_)⟩
    · have e1 : u = "room" := V.str.inj (of_decide_eq_true h1)
      obtain ⟨j, rfl⟩ := hk e1
      refine ⟨.ref a, rfl, a, _, 1, .int j, rfl, rfl, hS, atI_nat (j := 1) rfl, ?_⟩
      have e : rsz u (cnt [.int j]) far = j := by
        unfold rsz
        rw [if_pos e1]
        rfl
      rw [← e]
      exact k _ (Same.refl _)
    · have e1 : u ≠ "room" := fun e => h1 (decide_eq_true (by rw [e]))
      refine ⟨.str u, rfl, rfl, _, rfl, ite2 (fun h2 => ?_) (fun h2 => ?_)⟩
      · have e2 : u = "put" := V.str.inj (of_decide_eq_true h2)
        have e : rsz u (cnt r) far = 2 := by
          unfold rsz
          rw [if_neg e1, if_pos e2]
        show Q (.int 2) H
        rw [← e]
        exact k _ (Same.refl _)
      · have e2 : u ≠ "put" := fun e => h2 (decide_eq_true (by rw [e]))
        have one : (far = true ∧ (longV u).isSome = true) ∨ rsz u (cnt r) far = 1 := by
          by_cases q : far = true ∧ (longV u).isSome = true
          · exact .inl q
          · right
            unfold rsz
            rw [if_neg e1, if_neg e2, if_neg q]
        have fin : rsz u (cnt r) far = 1 → Q (.int 1) H := fun e => by
          rw [← e]
          exact k _ (Same.refl _)
        obtain ⟨q, e3, rel⟩ := long_at T u
        obtain ⟨i1, i2⟩ := relO_some rel
        refine ⟨.bl far, rfl, far, rfl, ?_⟩
        cases far with
        | false =>
          refine iteF (iteF ?_)
          refine fin (one.resolve_left fun z => nomatch z.1)
        | true =>
          refine iteT ⟨.str u, rfl, u, q, rfl, rfl, e3, _, rfl, ?_⟩
          rw [i1]
          cases hl : longV u with
          | none =>
            refine iteF ?_
            refine fin (one.resolve_left fun z => ?_)
            rw [hl] at z
            exact nomatch z.2
          | some j =>
            refine iteT ?_
            obtain ⟨v0, rfl, rv⟩ := i2 j hl
            refine ⟨.str u, rfl, _, u, .int j, rfl, rfl, ⟨_, _, v0, T.D_LONG_SIZES.at_, T.D_LONG_SIZES.lit, e3, rv⟩, ?_⟩
            have e : rsz u (cnt r) true = j := by
              unfold rsz
              rw [if_neg e1, if_neg e2, if_pos ⟨rfl, by rw [hl]; rfl⟩, hl]
              rfl
            rw [← e]
            exact k _ (Same.refl _)
def sp_row_fields (K : PySem.W.Frag) : Sp := fun vs H Q _ => ∃ (a : Addr) (u : Str) (r : List V) (far : Bool), vs = [.ref a, .bl far] ∧ SqT K H a (.str u :: r) ∧ u ∈ W16 ∧ ∀ (H' : Hp) (p : Addr), Same H H' → H p = none → FdAt H' p (fdw u far) → Q (.ref p) H'
theorem ok_row_fields (T : Txt K w mg Z) : FnOk P w K mg base CX0 1 Z.a_row_fields Z.d_row_fields ["row", "long"] (sp_row_fields K) := by
  refine T.F_row_fields.ok sc_row_fields (fun vs H Q E h => ?_) (fun cdv A outer s H vs Q E hr h => ?_)
  · obtain ⟨a, u, r, far, rfl, _⟩ := h
    rfl
  · obtain ⟨a, u, r, far, rfl, hS, hu, k⟩ := h
    refine ⟨_, (pss_cons (ps_set (i := 2) sc_row_fields.nd rfl (Or.inl rfl) (pe_ix ix_tup (pv 0) pe_int (fun _ _ => rfl)))
      (pss_cons (ps_if (pt_cmpR op_eq (pv 2) pe_str (nomark _)) (pss_one (ps_ret (pe_lst (pa_cons (pe_tup (pa_cons pe_int (pa_cons pe_str pa_nil))) pa_nil)))) pss_nil)
      (pss_cons (ps_if (PW.pt (pw_and (pt_val (pv 1)) (pw_and1 (pt_cmpR (op_in_kd T.D_HIGH_CELLS) (pv 2) (pe_glob (v := .ref Z.c_HIGH_CELLS) (by rfl) T.g_HIGH_CELLS rfl) (by rfl))))) (pss_cons (ps_set (i := 3) sc_row_fields.nd rfl (Or.inl rfl) (pe_ix ix_kdict (pe_glob (v := .ref Z.c_HIGH_CELLS) (by rfl) T.g_HIGH_CELLS rfl) (pv 2) (fun _ _ => rfl)))
      (pss_one (ps_ret (pe_lst (pa_cons (pe_tup (pa_cons (pv 3) (pa_cons pe_str pa_nil))) (pa_cons (pe_tup (pa_cons (pe_op op_add (pv 3) pe_int) (pa_cons pe_str pa_nil))) pa_nil)))))) pss_nil)
      (pss_one (ps_ret (pe_lst pa_nil)))))), ?_⟩
    refine ⟨.ref a, rfl, a, _, 0, .str u, rfl, rfl, hS, atI_nat (j := 0) rfl, ?_⟩
    refine ⟨.str u, rfl, rfl, _, rfl, ite2 (fun h1 => ?_) (fun h1 => ?_)⟩
    · have e1 : u = "address" := V.str.inj (of_decide_eq_true h1)
      refine ⟨(by show 2 ≤ sizeLine; decide), fun q hq => ⟨(by show 1 ≤ sizeLine; decide), fun p hp => ?_⟩⟩
      have s1 : Same H (upd H q (.tup [.int 0, .str "whole"])) := Same.new hq
      have e : fdw u far = ([(0, "whole")] : List (Int × Str)) := by
        unfold fdw
        rw [if_pos e1]
      refine k _ p (s1.trans (Same.new hp)) (s1.free hp) ?_
      rw [e]
      exact .one upd_same ((Same.new hp) _ _ upd_same)
    · have e1 : u ≠ "address" := fun e => h1 (decide_eq_true (by rw [e]))
      have fin : ¬ (far = true ∧ (highV u).isSome = true) → ∀ p, H p = none → Q (.ref p) (upd H p (.lst [])) := fun z p hp => by
        refine k _ p (Same.new hp) hp ?_
        have e : fdw u far = [] := by
          unfold fdw
          rw [if_neg e1, if_neg z]
        rw [e]
        exact .nil upd_same
      obtain ⟨q, e3, rel⟩ := high_at T u
      obtain ⟨i1, i2⟩ := relO_some rel
      refine ⟨.bl far, rfl, far, rfl, ?_⟩
      cases far with
      | false =>
        refine iteF (iteF ?_)
        exact ⟨Nat.zero_le _, fin fun z => nomatch z.1⟩
      | true =>
        refine iteT ⟨.str u, rfl, u, q, rfl, rfl, e3, _, rfl, ?_⟩
        rw [i1]
        cases hl : highV u with
        | none =>
          refine iteF ?_
          refine ⟨Nat.zero_le _, fin fun z => ?_⟩
          rw [hl] at z
          exact nomatch z.2
        | some j =>
          refine iteT ?_
          obtain ⟨v0, rfl, rv⟩ := i2 j hl
          refine ⟨.str u, rfl, _, u, .int j, rfl, rfl, ⟨_, _, v0, T.D_HIGH_CELLS.at_, T.D_HIGH_CELLS.lit, e3, rv⟩, ?_⟩
          refine ⟨.int j, rfl, (by show 2 ≤ sizeLine; decide), fun p1 h1 => ?_⟩
          have s1 : Same H (upd H p1 (.tup [V.int j, V.str "high"])) := Same.new h1
          have f1 : (upd H p1 (.tup [V.int j, V.str "high"])) p1 = some (.tup [V.int j, V.str "high"]) := upd_same
          generalize upd H p1 (.tup [V.int j, V.str "high"]) = H1 at s1 f1 ⊢
          refine ⟨.int j, rfl, _, _, rfl, rfl, (by show 2 ≤ sizeLine; decide), fun p2 h2 => ⟨(by show 2 ≤ sizeLine; decide), fun p hp => ?_⟩⟩
          have s2 : Same H1 (upd H1 p2 (.tup [V.int (j + 1), V.str "low"])) := Same.new h2
          refine k _ p ((s1.trans s2).trans (Same.new hp)) ((s1.trans s2).free hp) ?_
          have e : fdw u true = ([(j, "high"), (j + 1, "low")] : List (Int × Str)) := by
            unfold fdw
            rw [if_neg e1, if_pos ⟨rfl, by rw [hl]; rfl⟩, hl]
            rfl
          rw [e]
          exact .two upd_same ((Same.new hp) _ _ (s2 _ _ f1)) ((Same.new hp) _ _ upd_same)
end

/-- a row that stands: not the bag -/
def Rw (ts : List Str) (H : Hp) (b : Addr) (v : V) : Prop := ∃ (a : Addr) (xs : List V), v = .ref a ∧ a ≠ b ∧ H a = some (.tup xs) ∧ AnyRow ts xs
theorem Rw.stp {ts : List Str} {H H' : Hp} {b : Addr} {v : V} (s : Stp b H H') (h : Rw ts H b v) : Rw ts H' b v := by
  obtain ⟨a, xs, e, n, h1, h2⟩ := h
  exact ⟨a, xs, e, n, s _ _ n h1, h2⟩
section
variable {P : Program} {w : World} {K : PySem.W.Frag} {mg : Str → Option Value} {base : Heap} {Z : Fs}
def sp_law_each : Sp := fun vs H Q _ => ∃ (b l t : Addr) (ts : List Str), vs = [.ref b, .ref t] ∧ Bag H b l ∧ Tls H b t ts ∧ ∀ (H' : Hp) (q : Addr) (rs : List V), Stp b H H' → Bag H' b l → H' q = some (.lst rs) → q ≠ b → (∀ v ∈ rs, Rw ts H' b v) → rs.length ≤ 100 → Q (.ref q) H'
theorem ok_law_each (T : Txt K w mg Z) : FnOk P w K mg base CX0 5 Z.a_law_each Z.d_law_each ["_law_bag_here", "_law_titles_here"] sp_law_each := by
  have G_law_draw : FnOk P w K mg base CX0 1 Z.a_law_draw Z.d_law_draw ["_law_bag_here", "_law_sides"] sp_law_draw := ok_law_draw T
  have G_law_of : FnOk P w K mg base CX0 2 Z.a_law_of Z.d_law_of ["_law_bag_here", "_law_things"] (sp_law_of K) := ok_law_of T
  have G_law_number : FnOk P w K mg base CX0 3 Z.a_law_number Z.d_law_number ["_law_bag_here"] sp_law_number := ok_law_number T
  have G_law_r : FnOk P w K mg base CX0 3 Z.a_law_r Z.d_law_r ["_law_bag_here"] sp_law_r := ok_law_r T
  have G_law_code_row : FnOk P w K mg base CX0 4 Z.a_law_code_row Z.d_law_code_row ["_law_bag_here", "_law_titles_here"] sp_law_code_row := ok_law_code_row T
  have G_law_data_row : FnOk P w K mg base CX0 4 Z.a_law_data_row Z.d_law_data_row ["_law_bag_here", "_law_titles_here"] sp_law_data_row := ok_law_data_row T
  refine T.F_law_each.ok sc_law_each (fun vs H Q E h => ?_) (fun cdv A outer s H vs Q E hr h => ?_)
  · obtain ⟨b, l, t, ts, rfl, _⟩ := h
    rfl
  · obtain ⟨b, l, t, ts, rfl, B, TT, k⟩ := h
    refine ⟨_, (pss_cons (ps_par3 (i := 2) (j := 3) (l := 4) (by rfl) sc_law_each.nd rfl rfl rfl (by decide) (by decide) (by decide) rfl rfl rfl (pa_cons (pe_call G_law_r (hr.mono (by omega)) (by rfl) T.m_law_r T.F_law_r.kp T.b_law_r .nil pass0 (pa_cons (pv 0) pa_nil)) (pa_cons (pe_call G_law_r (hr.mono (by omega)) (by rfl) T.m_law_r T.F_law_r.kp T.b_law_r .nil pass0 (pa_cons (pv 0) pa_nil)) (pa_cons (pe_call G_law_of (hr.mono (by omega)) (by rfl) T.m_law_of T.F_law_of.kp T.b_law_of .nil pass0 (pa_cons (pv 0) (pa_cons (pv 1) pa_nil))) pa_nil))) (by rfl))
      (pss_cons (ps_set (i := 5) sc_law_each.nd rfl (Or.inl rfl) (pe_lst (pa_cons (pe_tup (pa_cons pe_str (pa_cons (pv 2) (pa_cons (pe_call G_law_number (hr.mono (by omega)) (by rfl) T.m_law_number T.F_law_number.kp T.b_law_number .nil pass0 (pa_cons (pv 0) pa_nil)) pa_nil)))) (pa_cons (pe_tup (pa_cons pe_str (pa_cons (pv 2) (pa_cons (pv 4) pa_nil)))) (pa_cons (pe_tup (pa_cons pe_str (pa_cons (pv 2) (pa_cons (pv 3) pa_nil)))) (pa_cons (pe_tup (pa_cons pe_str (pa_cons (pv 2) (pa_cons (pv 3) pa_nil)))) (pa_cons (pe_tup (pa_cons pe_str (pa_cons (pv 2) (pa_cons (pv 3) (pa_cons (pe_call G_law_draw (hr.mono (by omega)) (by rfl) T.m_law_draw T.F_law_draw.kp T.b_law_draw .nil pass0 (pa_cons (pv 0) (pa_cons pe_int pa_nil))) pa_nil))))) pa_nil)))))))
      (pss_cons (ps_set (i := 5) sc_law_each.nd rfl (Or.inl rfl) (pe_op op_cat (pv 5) (pe_lst (pa_cons (pe_tup (pa_cons pe_str (pa_cons (pv 2) (pa_cons (pv 3) (pa_cons (pe_call G_law_draw (hr.mono (by omega)) (by rfl) T.m_law_draw T.F_law_draw.kp T.b_law_draw .nil pass0 (pa_cons (pv 0) (pa_cons pe_int pa_nil))) pa_nil))))) (pa_cons (pe_tup (pa_cons pe_str (pa_cons (pv 4) pa_nil))) (pa_cons (pe_tup (pa_cons pe_str (pa_cons (pv 2) (pa_cons (pv 4) pa_nil)))) (pa_cons (pe_tup (pa_cons pe_str (pa_cons (pv 4) pa_nil))) (pa_cons (pe_tup (pa_cons pe_str (pa_cons (pv 2) pa_nil))) (pa_cons (pe_tup (pa_cons pe_str pa_nil)) pa_nil)))))))))
      (pss_cons (ps_set (i := 5) sc_law_each.nd rfl (Or.inl rfl) (pe_op op_cat (pv 5) (pe_lst (pa_cons (pe_tup (pa_cons pe_str (pa_cons (pv 2) pa_nil))) (pa_cons (pe_tup (pa_cons pe_str pa_nil)) (pa_cons (pe_tup (pa_cons pe_str (pa_cons (pe_op op_add pe_int (pe_call G_law_draw (hr.mono (by omega)) (by rfl) T.m_law_draw T.F_law_draw.kp T.b_law_draw .nil pass0 (pa_cons (pv 0) (pa_cons pe_int pa_nil)))) pa_nil))) (pa_cons (pe_tup (pa_cons pe_str (pa_cons pe_int pa_nil))) (pa_cons (pe_tup (pa_cons pe_str (pa_cons pe_int pa_nil))) (pa_cons (pe_tup (pa_cons pe_str (pa_cons (pe_call G_law_number (hr.mono (by omega)) (by rfl) T.m_law_number T.F_law_number.kp T.b_law_number .nil pass0 (pa_cons (pv 0) pa_nil)) pa_nil))) pa_nil)))))))))
      (pss_one (ps_ret (pe_op op_cat (pv 5) (pe_lst (pa_cons (pe_tup (pa_cons pe_str (pa_cons (pv 4) pa_nil))) (pa_cons (pe_call G_law_code_row (hr.mono (by omega)) (by rfl) T.m_law_code_row T.F_law_code_row.kp T.b_law_code_row .nil pass0 (pa_cons (pv 0) (pa_cons (pv 1) pa_nil))) (pa_cons (pe_call G_law_data_row (hr.mono (by omega)) (by rfl) T.m_law_data_row T.F_law_data_row.kp T.b_law_data_row .nil pass0 (pa_cons (pv 0) (pa_cons (pv 1) pa_nil))) pa_nil))))))))))), ?_⟩
    refine ⟨.ref b, rfl, b, l, rfl, B, fun Ha va sa Ba hra => ⟨.ref b, rfl, b, l, rfl, Ba, fun Hb vb sb Bb hrb => ?_⟩⟩
    refine ⟨.ref b, rfl, .ref t, rfl, b, l, .ref t, _, rfl, Bb, ((TT.stp sa).stp sb).thg, fun H0 vo so B0 hvo => ⟨_, _, _, rfl, ?_⟩⟩
    obtain ⟨z, rfl, ho⟩ := hvo
    have ss : Stp b H H0 := (sa.trans sb).trans so
    replace TT := TT.stp ss
    replace B := B0
    clear B0 Ba Bb sa sb so
    have A0 : ∀ v ∈ ([] : List V), Rw ts H0 b v := mem0
    refine ⟨_, rfl, .ref b, rfl, b, l, rfl, B, fun H1 i s B2 n0 n1 => ?_⟩
    replace TT := TT.stp s
    replace ss := ss.trans s
    replace B := B2
    clear B2
    replace A0 := fun v m => (A0 v m).stp s
    clear s
    refine ⟨(by show 3 ≤ sizeLine; decide), fun x1 h => ?_⟩
    have na := B.ne h
    have s : Stp b H1 (upd H1 x1 (.tup [V.str "put", va, V.int i])) := Stp.new h
    replace B : Bag (upd H1 x1 (.tup [V.str "put", va, V.int i])) b l := B.new h
    have e : (upd H1 x1 (.tup [V.str "put", va, V.int i])) x1 = some (.tup [V.str "put", va, V.int i]) := upd_same
    clear h
    generalize upd H1 x1 (.tup [V.str "put", va, V.int i]) = H2 at s B e ⊢
    replace TT := TT.stp s
    replace ss := ss.trans s
    have A1 := mema (fun v m => (A0 v m).stp s) (mem1 (P := Rw ts H2 b) ⟨x1, _, rfl, na, e, .inl (.put hra n0 n1)⟩)
    clear A0 s e na
    clear n0 n1
    refine ⟨_, rfl, _, rfl, (by show 3 ≤ sizeLine; decide), fun x2 h => ?_⟩
    have na := B.ne h
    have s : Stp b H2 (upd H2 x2 (.tup [V.str "name", va, V.str z])) := Stp.new h
    replace B : Bag (upd H2 x2 (.tup [V.str "name", va, V.str z])) b l := B.new h
    have e : (upd H2 x2 (.tup [V.str "name", va, V.str z])) x2 = some (.tup [V.str "name", va, V.str z]) := upd_same
    clear h
    generalize upd H2 x2 (.tup [V.str "name", va, V.str z]) = H3 at s B e ⊢
    replace TT := TT.stp s
    replace ss := ss.trans s
    have A2 := mema (fun v m => (A1 v m).stp s) (mem1 (P := Rw ts H3 b) ⟨x2, _, rfl, na, e, .inl (.name hra ho)⟩)
    clear A1 s e na
    refine ⟨_, rfl, _, rfl, (by show 3 ≤ sizeLine; decide), fun x3 h => ?_⟩
    have na := B.ne h
    have s : Stp b H3 (upd H3 x3 (.tup [V.str "add", va, vb])) := Stp.new h
    replace B : Bag (upd H3 x3 (.tup [V.str "add", va, vb])) b l := B.new h
    have e : (upd H3 x3 (.tup [V.str "add", va, vb])) x3 = some (.tup [V.str "add", va, vb]) := upd_same
    clear h
    generalize upd H3 x3 (.tup [V.str "add", va, vb]) = H4 at s B e ⊢
    replace TT := TT.stp s
    replace ss := ss.trans s
    have A3 := mema (fun v m => (A2 v m).stp s) (mem1 (P := Rw ts H4 b) ⟨x3, _, rfl, na, e, .inl (.add hra hrb)⟩)
    clear A2 s e na
    refine ⟨_, rfl, _, rfl, (by show 3 ≤ sizeLine; decide), fun x4 h => ?_⟩
    have na := B.ne h
    have s : Stp b H4 (upd H4 x4 (.tup [V.str "take", va, vb])) := Stp.new h
    replace B : Bag (upd H4 x4 (.tup [V.str "take", va, vb])) b l := B.new h
    have e : (upd H4 x4 (.tup [V.str "take", va, vb])) x4 = some (.tup [V.str "take", va, vb]) := upd_same
    clear h
    generalize upd H4 x4 (.tup [V.str "take", va, vb]) = H5 at s B e ⊢
    replace TT := TT.stp s
    replace ss := ss.trans s
    have A4 := mema (fun v m => (A3 v m).stp s) (mem1 (P := Rw ts H5 b) ⟨x4, _, rfl, na, e, .inl (.take hra hrb)⟩)
    clear A3 s e na
    refine ⟨_, rfl, _, rfl, .ref b, rfl, b, l, 16, rfl, B, by decide, by decide, fun H6 i s B2 n0 n1 => ?_⟩
    replace TT := TT.stp s
    replace ss := ss.trans s
    replace B := B2
    clear B2
    replace A4 := fun v m => (A4 v m).stp s
    clear s
    refine ⟨(by show 4 ≤ sizeLine; decide), fun x5 h => ?_⟩
    have na := B.ne h
    have s : Stp b H6 (upd H6 x5 (.tup [V.str "load", va, vb, V.int i])) := Stp.new h
    replace B : Bag (upd H6 x5 (.tup [V.str "load", va, vb, V.int i])) b l := B.new h
    have e : (upd H6 x5 (.tup [V.str "load", va, vb, V.int i])) x5 = some (.tup [V.str "load", va, vb, V.int i]) := upd_same
    clear h
    generalize upd H6 x5 (.tup [V.str "load", va, vb, V.int i]) = H7 at s B e ⊢
    replace TT := TT.stp s
    replace ss := ss.trans s
    have A5 := mema (fun v m => (A4 v m).stp s) (mem1 (P := Rw ts H7 b) ⟨x5, _, rfl, na, e, .inl (.load hra hrb n0 (by omega))⟩)
    clear A4 s e na
    clear n0 n1
    refine ⟨(by show 5 ≤ sizeLine; decide), fun q0 h => ?_⟩
    have nq := B.ne h
    have s : Stp b H7 (upd H7 q0 (.lst [V.ref x1, V.ref x2, V.ref x3, V.ref x4, V.ref x5])) := Stp.new h
    replace B : Bag (upd H7 q0 (.lst [V.ref x1, V.ref x2, V.ref x3, V.ref x4, V.ref x5])) b l := B.new h
    have eq : (upd H7 q0 (.lst [V.ref x1, V.ref x2, V.ref x3, V.ref x4, V.ref x5])) q0 = some (.lst [V.ref x1, V.ref x2, V.ref x3, V.ref x4, V.ref x5]) := upd_same
    clear h
    generalize upd H7 q0 (.lst [V.ref x1, V.ref x2, V.ref x3, V.ref x4, V.ref x5]) = H8 at s B eq ⊢
    replace TT := TT.stp s
    replace ss := ss.trans s
    have AQ : ∀ v ∈ [V.ref x1, V.ref x2, V.ref x3, V.ref x4, V.ref x5], Rw ts H8 b v := fun v m => (A5 v m).stp s
    clear A5 s
    have ep := eq
    have np := nq
    have AP := AQ
    clear eq nq AQ
    refine ⟨_, rfl, ?_⟩
    have A0 : ∀ v ∈ ([] : List V), Rw ts H8 b v := mem0
    refine ⟨_, rfl, _, rfl, .ref b, rfl, b, l, 16, rfl, B, by decide, by decide, fun H9 i s B2 n0 n1 => ?_⟩
    replace TT := TT.stp s
    replace ss := ss.trans s
    replace B := B2
    clear B2
    replace ep := s _ _ np ep
    replace AP := fun v m => (AP v m).stp s
    replace A0 := fun v m => (A0 v m).stp s
    clear s
    refine ⟨(by show 4 ≤ sizeLine; decide), fun x6 h => ?_⟩
    have na := B.ne h
    have s : Stp b H9 (upd H9 x6 (.tup [V.str "store", va, vb, V.int i])) := Stp.new h
    replace B : Bag (upd H9 x6 (.tup [V.str "store", va, vb, V.int i])) b l := B.new h
    have e : (upd H9 x6 (.tup [V.str "store", va, vb, V.int i])) x6 = some (.tup [V.str "store", va, vb, V.int i]) := upd_same
    clear h
    generalize upd H9 x6 (.tup [V.str "store", va, vb, V.int i]) = H10 at s B e ⊢
    replace TT := TT.stp s
    replace ss := ss.trans s
    replace ep := s _ _ np ep
    replace AP := fun v m => (AP v m).stp s
    have A6 := mema (fun v m => (A0 v m).stp s) (mem1 (P := Rw ts H10 b) ⟨x6, _, rfl, na, e, .inl (.store hra hrb n0 (by omega))⟩)
    clear A0 s e na
    clear n0 n1
    refine ⟨_, rfl, (by show 2 ≤ sizeLine; decide), fun x7 h => ?_⟩
    have na := B.ne h
    have s : Stp b H10 (upd H10 x7 (.tup [V.str "jump", V.str z])) := Stp.new h
    replace B : Bag (upd H10 x7 (.tup [V.str "jump", V.str z])) b l := B.new h
    have e : (upd H10 x7 (.tup [V.str "jump", V.str z])) x7 = some (.tup [V.str "jump", V.str z]) := upd_same
    clear h
    generalize upd H10 x7 (.tup [V.str "jump", V.str z]) = H11 at s B e ⊢
    replace TT := TT.stp s
    replace ss := ss.trans s
    replace ep := s _ _ np ep
    replace AP := fun v m => (AP v m).stp s
    have A7 := mema (fun v m => (A6 v m).stp s) (mem1 (P := Rw ts H11 b) ⟨x7, _, rfl, na, e, .inl (.jump ho)⟩)
    clear A6 s e na
    refine ⟨_, rfl, _, rfl, (by show 3 ≤ sizeLine; decide), fun x8 h => ?_⟩
    have na := B.ne h
    have s : Stp b H11 (upd H11 x8 (.tup [V.str "ifzero", va, V.str z])) := Stp.new h
    replace B : Bag (upd H11 x8 (.tup [V.str "ifzero", va, V.str z])) b l := B.new h
    have e : (upd H11 x8 (.tup [V.str "ifzero", va, V.str z])) x8 = some (.tup [V.str "ifzero", va, V.str z]) := upd_same
    clear h
    generalize upd H11 x8 (.tup [V.str "ifzero", va, V.str z]) = H12 at s B e ⊢
    replace TT := TT.stp s
    replace ss := ss.trans s
    replace ep := s _ _ np ep
    replace AP := fun v m => (AP v m).stp s
    have A8 := mema (fun v m => (A7 v m).stp s) (mem1 (P := Rw ts H12 b) ⟨x8, _, rfl, na, e, .inl (.ifzero hra ho)⟩)
    clear A7 s e na
    refine ⟨_, rfl, (by show 2 ≤ sizeLine; decide), fun x9 h => ?_⟩
    have na := B.ne h
    have s : Stp b H12 (upd H12 x9 (.tup [V.str "call", V.str z])) := Stp.new h
    replace B : Bag (upd H12 x9 (.tup [V.str "call", V.str z])) b l := B.new h
    have e : (upd H12 x9 (.tup [V.str "call", V.str z])) x9 = some (.tup [V.str "call", V.str z]) := upd_same
    clear h
    generalize upd H12 x9 (.tup [V.str "call", V.str z]) = H13 at s B e ⊢
    replace TT := TT.stp s
    replace ss := ss.trans s
    replace ep := s _ _ np ep
    replace AP := fun v m => (AP v m).stp s
    have A9 := mema (fun v m => (A8 v m).stp s) (mem1 (P := Rw ts H13 b) ⟨x9, _, rfl, na, e, .inl (.call ho)⟩)
    clear A8 s e na
    refine ⟨_, rfl, (by show 2 ≤ sizeLine; decide), fun x10 h => ?_⟩
    have na := B.ne h
    have s : Stp b H13 (upd H13 x10 (.tup [V.str "callby", va])) := Stp.new h
    replace B : Bag (upd H13 x10 (.tup [V.str "callby", va])) b l := B.new h
    have e : (upd H13 x10 (.tup [V.str "callby", va])) x10 = some (.tup [V.str "callby", va]) := upd_same
    clear h
    generalize upd H13 x10 (.tup [V.str "callby", va]) = H14 at s B e ⊢
    replace TT := TT.stp s
    replace ss := ss.trans s
    replace ep := s _ _ np ep
    replace AP := fun v m => (AP v m).stp s
    have A10 := mema (fun v m => (A9 v m).stp s) (mem1 (P := Rw ts H14 b) ⟨x10, _, rfl, na, e, .inl (.callby hra)⟩)
    clear A9 s e na
    refine ⟨(by show 1 ≤ sizeLine; decide), fun x11 h => ?_⟩
    have na := B.ne h
    have s : Stp b H14 (upd H14 x11 (.tup [V.str "back"])) := Stp.new h
    replace B : Bag (upd H14 x11 (.tup [V.str "back"])) b l := B.new h
    have e : (upd H14 x11 (.tup [V.str "back"])) x11 = some (.tup [V.str "back"]) := upd_same
    clear h
    generalize upd H14 x11 (.tup [V.str "back"]) = H15 at s B e ⊢
    replace TT := TT.stp s
    replace ss := ss.trans s
    replace ep := s _ _ np ep
    replace AP := fun v m => (AP v m).stp s
    have A11 := mema (fun v m => (A10 v m).stp s) (mem1 (P := Rw ts H15 b) ⟨x11, _, rfl, na, e, .inl .back⟩)
    clear A10 s e na
    refine ⟨(by show 6 ≤ sizeLine; decide), fun q1 h => ?_⟩
    have nq := B.ne h
    have s : Stp b H15 (upd H15 q1 (.lst [V.ref x6, V.ref x7, V.ref x8, V.ref x9, V.ref x10, V.ref x11])) := Stp.new h
    replace B : Bag (upd H15 q1 (.lst [V.ref x6, V.ref x7, V.ref x8, V.ref x9, V.ref x10, V.ref x11])) b l := B.new h
    have eq : (upd H15 q1 (.lst [V.ref x6, V.ref x7, V.ref x8, V.ref x9, V.ref x10, V.ref x11])) q1 = some (.lst [V.ref x6, V.ref x7, V.ref x8, V.ref x9, V.ref x10, V.ref x11]) := upd_same
    clear h
    generalize upd H15 q1 (.lst [V.ref x6, V.ref x7, V.ref x8, V.ref x9, V.ref x10, V.ref x11]) = H16 at s B eq ⊢
    replace TT := TT.stp s
    replace ss := ss.trans s
    have AQ : ∀ v ∈ [V.ref x6, V.ref x7, V.ref x8, V.ref x9, V.ref x10, V.ref x11], Rw ts H16 b v := fun v m => (A11 v m).stp s
    replace ep := s _ _ np ep
    replace AP := fun v m => (AP v m).stp s
    clear A11 s
    refine ⟨q0, q1, _, _, rfl, rfl, ep, eq, (by show 11 ≤ sizeLine; decide), fun r1 h => ?_⟩
    have nr := B.ne h
    have s : Stp b H16 (upd H16 r1 (.lst ([V.ref x1, V.ref x2, V.ref x3, V.ref x4, V.ref x5] ++ [V.ref x6, V.ref x7, V.ref x8, V.ref x9, V.ref x10, V.ref x11]))) := Stp.new h
    replace B : Bag (upd H16 r1 (.lst ([V.ref x1, V.ref x2, V.ref x3, V.ref x4, V.ref x5] ++ [V.ref x6, V.ref x7, V.ref x8, V.ref x9, V.ref x10, V.ref x11]))) b l := B.new h
    have er : (upd H16 r1 (.lst ([V.ref x1, V.ref x2, V.ref x3, V.ref x4, V.ref x5] ++ [V.ref x6, V.ref x7, V.ref x8, V.ref x9, V.ref x10, V.ref x11]))) r1 = some (.lst [V.ref x1, V.ref x2, V.ref x3, V.ref x4, V.ref x5, V.ref x6, V.ref x7, V.ref x8, V.ref x9, V.ref x10, V.ref x11]) := upd_same
    clear h
    generalize upd H16 r1 (.lst ([V.ref x1, V.ref x2, V.ref x3, V.ref x4, V.ref x5] ++ [V.ref x6, V.ref x7, V.ref x8, V.ref x9, V.ref x10, V.ref x11])) = H17 at s B er ⊢
    replace TT := TT.stp s
    replace ss := ss.trans s
    replace AP : ∀ v ∈ [V.ref x1, V.ref x2, V.ref x3, V.ref x4, V.ref x5, V.ref x6, V.ref x7, V.ref x8, V.ref x9, V.ref x10, V.ref x11], Rw ts H17 b v := mema (l := [V.ref x1, V.ref x2, V.ref x3, V.ref x4, V.ref x5]) (r := [V.ref x6, V.ref x7, V.ref x8, V.ref x9, V.ref x10, V.ref x11]) (fun v m => (AP v m).stp s) fun v m => (AQ v m).stp s
    replace ep := er
    replace np := nr
    clear s eq nq AQ er nr
    refine ⟨_, rfl, ?_⟩
    have A0 : ∀ v ∈ ([] : List V), Rw ts H17 b v := mem0
    refine ⟨_, rfl, (by show 2 ≤ sizeLine; decide), fun x12 h => ?_⟩
    have na := B.ne h
    have s : Stp b H17 (upd H17 x12 (.tup [V.str "out", va])) := Stp.new h
    replace B : Bag (upd H17 x12 (.tup [V.str "out", va])) b l := B.new h
    have e : (upd H17 x12 (.tup [V.str "out", va])) x12 = some (.tup [V.str "out", va]) := upd_same
    clear h
    generalize upd H17 x12 (.tup [V.str "out", va]) = H18 at s B e ⊢
    replace TT := TT.stp s
    replace ss := ss.trans s
    replace ep := s _ _ np ep
    replace AP := fun v m => (AP v m).stp s
    have A12 := mema (fun v m => (A0 v m).stp s) (mem1 (P := Rw ts H18 b) ⟨x12, _, rfl, na, e, .inl (.out hra)⟩)
    clear A0 s e na
    refine ⟨(by show 1 ≤ sizeLine; decide), fun x13 h => ?_⟩
    have na := B.ne h
    have s : Stp b H18 (upd H18 x13 (.tup [V.str "halt"])) := Stp.new h
    replace B : Bag (upd H18 x13 (.tup [V.str "halt"])) b l := B.new h
    have e : (upd H18 x13 (.tup [V.str "halt"])) x13 = some (.tup [V.str "halt"]) := upd_same
    clear h
    generalize upd H18 x13 (.tup [V.str "halt"]) = H19 at s B e ⊢
    replace TT := TT.stp s
    replace ss := ss.trans s
    replace ep := s _ _ np ep
    replace AP := fun v m => (AP v m).stp s
    have A13 := mema (fun v m => (A12 v m).stp s) (mem1 (P := Rw ts H19 b) ⟨x13, _, rfl, na, e, .inl .halt⟩)
    clear A12 s e na
    refine ⟨.ref b, rfl, b, l, 120, rfl, B, by decide, by decide, fun H20 i s B2 n0 n1 => ?_⟩
    replace TT := TT.stp s
    replace ss := ss.trans s
    replace B := B2
    clear B2
    replace ep := s _ _ np ep
    replace AP := fun v m => (AP v m).stp s
    replace A13 := fun v m => (A13 v m).stp s
    clear s
    refine ⟨_, _, rfl, rfl, (by show 2 ≤ sizeLine; decide), fun x14 h => ?_⟩
    have na := B.ne h
    have s : Stp b H20 (upd H20 x14 (.tup [V.str "room", V.int (1 + i)])) := Stp.new h
    replace B : Bag (upd H20 x14 (.tup [V.str "room", V.int (1 + i)])) b l := B.new h
    have e : (upd H20 x14 (.tup [V.str "room", V.int (1 + i)])) x14 = some (.tup [V.str "room", V.int (1 + i)]) := upd_same
    clear h
    dsimp only
    generalize upd H20 x14 (.tup [V.str "room", V.int (1 + i)]) = H21 at s B e ⊢
    replace TT := TT.stp s
    replace ss := ss.trans s
    replace ep := s _ _ np ep
    replace AP := fun v m => (AP v m).stp s
    have A14 := mema (fun v m => (A13 v m).stp s) (mem1 (P := Rw ts H21 b) ⟨x14, _, rfl, na, e, .inl (.room (by omega) (by omega))⟩)
    clear A13 s e na
    clear n0 n1
    refine ⟨(by show 2 ≤ sizeLine; decide), fun x15 h => ?_⟩
    have na := B.ne h
    have s : Stp b H21 (upd H21 x15 (.tup [V.str "room", V.int 1])) := Stp.new h
    replace B : Bag (upd H21 x15 (.tup [V.str "room", V.int 1])) b l := B.new h
    have e : (upd H21 x15 (.tup [V.str "room", V.int 1])) x15 = some (.tup [V.str "room", V.int 1]) := upd_same
    clear h
    generalize upd H21 x15 (.tup [V.str "room", V.int 1]) = H22 at s B e ⊢
    replace TT := TT.stp s
    replace ss := ss.trans s
    replace ep := s _ _ np ep
    replace AP := fun v m => (AP v m).stp s
    have A15 := mema (fun v m => (A14 v m).stp s) (mem1 (P := Rw ts H22 b) ⟨x15, _, rfl, na, e, .inl (.room (by decide) (by decide))⟩)
    clear A14 s e na
    refine ⟨(by show 2 ≤ sizeLine; decide), fun x16 h => ?_⟩
    have na := B.ne h
    have s : Stp b H22 (upd H22 x16 (.tup [V.str "room", V.int 120])) := Stp.new h
    replace B : Bag (upd H22 x16 (.tup [V.str "room", V.int 120])) b l := B.new h
    have e : (upd H22 x16 (.tup [V.str "room", V.int 120])) x16 = some (.tup [V.str "room", V.int 120]) := upd_same
    clear h
    generalize upd H22 x16 (.tup [V.str "room", V.int 120]) = H23 at s B e ⊢
    replace TT := TT.stp s
    replace ss := ss.trans s
    replace ep := s _ _ np ep
    replace AP := fun v m => (AP v m).stp s
    have A16 := mema (fun v m => (A15 v m).stp s) (mem1 (P := Rw ts H23 b) ⟨x16, _, rfl, na, e, .inl (.room (by decide) (by decide))⟩)
    clear A15 s e na
    refine ⟨.ref b, rfl, b, l, rfl, B, fun H24 i s B2 n0 n1 => ?_⟩
    replace TT := TT.stp s
    replace ss := ss.trans s
    replace B := B2
    clear B2
    replace ep := s _ _ np ep
    replace AP := fun v m => (AP v m).stp s
    replace A16 := fun v m => (A16 v m).stp s
    clear s
    refine ⟨(by show 2 ≤ sizeLine; decide), fun x17 h => ?_⟩
    have na := B.ne h
    have s : Stp b H24 (upd H24 x17 (.tup [V.str "word", V.int i])) := Stp.new h
    replace B : Bag (upd H24 x17 (.tup [V.str "word", V.int i])) b l := B.new h
    have e : (upd H24 x17 (.tup [V.str "word", V.int i])) x17 = some (.tup [V.str "word", V.int i]) := upd_same
    clear h
    generalize upd H24 x17 (.tup [V.str "word", V.int i]) = H25 at s B e ⊢
    replace TT := TT.stp s
    replace ss := ss.trans s
    replace ep := s _ _ np ep
    replace AP := fun v m => (AP v m).stp s
    have A17 := mema (fun v m => (A16 v m).stp s) (mem1 (P := Rw ts H25 b) ⟨x17, _, rfl, na, e, .inr (.word n0 n1)⟩)
    clear A16 s e na
    clear n0 n1
    refine ⟨(by show 6 ≤ sizeLine; decide), fun q2 h => ?_⟩
    have nq := B.ne h
    have s : Stp b H25 (upd H25 q2 (.lst [V.ref x12, V.ref x13, V.ref x14, V.ref x15, V.ref x16, V.ref x17])) := Stp.new h
    replace B : Bag (upd H25 q2 (.lst [V.ref x12, V.ref x13, V.ref x14, V.ref x15, V.ref x16, V.ref x17])) b l := B.new h
    have eq : (upd H25 q2 (.lst [V.ref x12, V.ref x13, V.ref x14, V.ref x15, V.ref x16, V.ref x17])) q2 = some (.lst [V.ref x12, V.ref x13, V.ref x14, V.ref x15, V.ref x16, V.ref x17]) := upd_same
    clear h
    generalize upd H25 q2 (.lst [V.ref x12, V.ref x13, V.ref x14, V.ref x15, V.ref x16, V.ref x17]) = H26 at s B eq ⊢
    replace TT := TT.stp s
    replace ss := ss.trans s
    have AQ : ∀ v ∈ [V.ref x12, V.ref x13, V.ref x14, V.ref x15, V.ref x16, V.ref x17], Rw ts H26 b v := fun v m => (A17 v m).stp s
    replace ep := s _ _ np ep
    replace AP := fun v m => (AP v m).stp s
    clear A17 s
    refine ⟨r1, q2, _, _, rfl, rfl, ep, eq, (by show 17 ≤ sizeLine; decide), fun r2 h => ?_⟩
    have nr := B.ne h
    have s : Stp b H26 (upd H26 r2 (.lst ([V.ref x1, V.ref x2, V.ref x3, V.ref x4, V.ref x5, V.ref x6, V.ref x7, V.ref x8, V.ref x9, V.ref x10, V.ref x11] ++ [V.ref x12, V.ref x13, V.ref x14, V.ref x15, V.ref x16, V.ref x17]))) := Stp.new h
    replace B : Bag (upd H26 r2 (.lst ([V.ref x1, V.ref x2, V.ref x3, V.ref x4, V.ref x5, V.ref x6, V.ref x7, V.ref x8, V.ref x9, V.ref x10, V.ref x11] ++ [V.ref x12, V.ref x13, V.ref x14, V.ref x15, V.ref x16, V.ref x17]))) b l := B.new h
    have er : (upd H26 r2 (.lst ([V.ref x1, V.ref x2, V.ref x3, V.ref x4, V.ref x5, V.ref x6, V.ref x7, V.ref x8, V.ref x9, V.ref x10, V.ref x11] ++ [V.ref x12, V.ref x13, V.ref x14, V.ref x15, V.ref x16, V.ref x17]))) r2 = some (.lst [V.ref x1, V.ref x2, V.ref x3, V.ref x4, V.ref x5, V.ref x6, V.ref x7, V.ref x8, V.ref x9, V.ref x10, V.ref x11, V.ref x12, V.ref x13, V.ref x14, V.ref x15, V.ref x16, V.ref x17]) := upd_same
    clear h
    generalize upd H26 r2 (.lst ([V.ref x1, V.ref x2, V.ref x3, V.ref x4, V.ref x5, V.ref x6, V.ref x7, V.ref x8, V.ref x9, V.ref x10, V.ref x11] ++ [V.ref x12, V.ref x13, V.ref x14, V.ref x15, V.ref x16, V.ref x17])) = H27 at s B er ⊢
    replace TT := TT.stp s
    replace ss := ss.trans s
    replace AP : ∀ v ∈ [V.ref x1, V.ref x2, V.ref x3, V.ref x4, V.ref x5, V.ref x6, V.ref x7, V.ref x8, V.ref x9, V.ref x10, V.ref x11, V.ref x12, V.ref x13, V.ref x14, V.ref x15, V.ref x16, V.ref x17], Rw ts H27 b v := mema (l := [V.ref x1, V.ref x2, V.ref x3, V.ref x4, V.ref x5, V.ref x6, V.ref x7, V.ref x8, V.ref x9, V.ref x10, V.ref x11]) (r := [V.ref x12, V.ref x13, V.ref x14, V.ref x15, V.ref x16, V.ref x17]) (fun v m => (AP v m).stp s) fun v m => (AQ v m).stp s
    replace ep := er
    replace np := nr
    clear s eq nq AQ er nr
    refine ⟨_, rfl, ?_⟩
    have A0 : ∀ v ∈ ([] : List V), Rw ts H27 b v := mem0
    refine ⟨_, rfl, (by show 2 ≤ sizeLine; decide), fun x18 h => ?_⟩
    have na := B.ne h
    have s : Stp b H27 (upd H27 x18 (.tup [V.str "address", V.str z])) := Stp.new h
    replace B : Bag (upd H27 x18 (.tup [V.str "address", V.str z])) b l := B.new h
    have e : (upd H27 x18 (.tup [V.str "address", V.str z])) x18 = some (.tup [V.str "address", V.str z]) := upd_same
    clear h
    generalize upd H27 x18 (.tup [V.str "address", V.str z]) = H28 at s B e ⊢
    replace TT := TT.stp s
    replace ss := ss.trans s
    replace ep := s _ _ np ep
    replace AP := fun v m => (AP v m).stp s
    have A18 := mema (fun v m => (A0 v m).stp s) (mem1 (P := Rw ts H28 b) ⟨x18, _, rfl, na, e, .inr (.address ho)⟩)
    clear A0 s e na
    refine ⟨.ref b, rfl, .ref t, rfl, b, l, t, ts, rfl, B, TT, fun H29 x19 xs19 s B2 e na hx => ?_⟩
    replace TT := TT.stp s
    replace ss := ss.trans s
    replace B := B2
    clear B2
    replace ep := s _ _ np ep
    replace AP := fun v m => (AP v m).stp s
    have A19 := mema (fun v m => (A18 v m).stp s) (mem1 (P := Rw ts H29 b) ⟨x19, xs19, rfl, na, e, .inl hx⟩)
    clear A18 s
    refine ⟨.ref b, rfl, .ref t, rfl, b, l, t, ts, rfl, B, TT, fun H30 x20 xs20 s B2 e na hx => ?_⟩
    replace TT := TT.stp s
    replace ss := ss.trans s
    replace B := B2
    clear B2
    replace ep := s _ _ np ep
    replace AP := fun v m => (AP v m).stp s
    have A20 := mema (fun v m => (A19 v m).stp s) (mem1 (P := Rw ts H30 b) ⟨x20, xs20, rfl, na, e, .inr hx⟩)
    clear A19 s
    refine ⟨(by show 3 ≤ sizeLine; decide), fun q3 h => ?_⟩
    have nq := B.ne h
    have s : Stp b H30 (upd H30 q3 (.lst [V.ref x18, V.ref x19, V.ref x20])) := Stp.new h
    replace B : Bag (upd H30 q3 (.lst [V.ref x18, V.ref x19, V.ref x20])) b l := B.new h
    have eq : (upd H30 q3 (.lst [V.ref x18, V.ref x19, V.ref x20])) q3 = some (.lst [V.ref x18, V.ref x19, V.ref x20]) := upd_same
    clear h
    generalize upd H30 q3 (.lst [V.ref x18, V.ref x19, V.ref x20]) = H31 at s B eq ⊢
    replace TT := TT.stp s
    replace ss := ss.trans s
    have AQ : ∀ v ∈ [V.ref x18, V.ref x19, V.ref x20], Rw ts H31 b v := fun v m => (A20 v m).stp s
    replace ep := s _ _ np ep
    replace AP := fun v m => (AP v m).stp s
    clear A20 s
    refine ⟨r2, q3, _, _, rfl, rfl, ep, eq, (by show 20 ≤ sizeLine; decide), fun r3 h => ?_⟩
    have nr := B.ne h
    have s : Stp b H31 (upd H31 r3 (.lst ([V.ref x1, V.ref x2, V.ref x3, V.ref x4, V.ref x5, V.ref x6, V.ref x7, V.ref x8, V.ref x9, V.ref x10, V.ref x11, V.ref x12, V.ref x13, V.ref x14, V.ref x15, V.ref x16, V.ref x17] ++ [V.ref x18, V.ref x19, V.ref x20]))) := Stp.new h
    replace B : Bag (upd H31 r3 (.lst ([V.ref x1, V.ref x2, V.ref x3, V.ref x4, V.ref x5, V.ref x6, V.ref x7, V.ref x8, V.ref x9, V.ref x10, V.ref x11, V.ref x12, V.ref x13, V.ref x14, V.ref x15, V.ref x16, V.ref x17] ++ [V.ref x18, V.ref x19, V.ref x20]))) b l := B.new h
    have er : (upd H31 r3 (.lst ([V.ref x1, V.ref x2, V.ref x3, V.ref x4, V.ref x5, V.ref x6, V.ref x7, V.ref x8, V.ref x9, V.ref x10, V.ref x11, V.ref x12, V.ref x13, V.ref x14, V.ref x15, V.ref x16, V.ref x17] ++ [V.ref x18, V.ref x19, V.ref x20]))) r3 = some (.lst [V.ref x1, V.ref x2, V.ref x3, V.ref x4, V.ref x5, V.ref x6, V.ref x7, V.ref x8, V.ref x9, V.ref x10, V.ref x11, V.ref x12, V.ref x13, V.ref x14, V.ref x15, V.ref x16, V.ref x17, V.ref x18, V.ref x19, V.ref x20]) := upd_same
    clear h
    generalize upd H31 r3 (.lst ([V.ref x1, V.ref x2, V.ref x3, V.ref x4, V.ref x5, V.ref x6, V.ref x7, V.ref x8, V.ref x9, V.ref x10, V.ref x11, V.ref x12, V.ref x13, V.ref x14, V.ref x15, V.ref x16, V.ref x17] ++ [V.ref x18, V.ref x19, V.ref x20])) = H32 at s B er ⊢
    replace TT := TT.stp s
    replace ss := ss.trans s
    replace AP : ∀ v ∈ [V.ref x1, V.ref x2, V.ref x3, V.ref x4, V.ref x5, V.ref x6, V.ref x7, V.ref x8, V.ref x9, V.ref x10, V.ref x11, V.ref x12, V.ref x13, V.ref x14, V.ref x15, V.ref x16, V.ref x17, V.ref x18, V.ref x19, V.ref x20], Rw ts H32 b v := mema (l := [V.ref x1, V.ref x2, V.ref x3, V.ref x4, V.ref x5, V.ref x6, V.ref x7, V.ref x8, V.ref x9, V.ref x10, V.ref x11, V.ref x12, V.ref x13, V.ref x14, V.ref x15, V.ref x16, V.ref x17]) (r := [V.ref x18, V.ref x19, V.ref x20]) (fun v m => (AP v m).stp s) fun v m => (AQ v m).stp s
    replace ep := er
    replace np := nr
    clear s eq nq AQ er nr
    exact k _ _ _ ss B ep np AP (by show 20 ≤ 100; decide)
end

section
variable {P : Program} {w : World} {K : PySem.W.Frag} {mg : Str → Option Value} {base : Heap} {Z : Fs}
/-! ### the law's own size and fields -/
def four : List V := [.str "name", .str "jump", .str "ifzero", .str "call"]
theorem in_four : ∀ u ∈ W16, inV (.str u) four = (highV u).isSome := by decide +kernel
theorem high_is : ∀ u ∈ W16, (highV u).isSome = true → highV u = some (if u = "ifzero" then 2 else 0) := by decide +kernel
theorem four_not : ∀ u ∈ W16, (highV u).isSome = true → u ≠ "address" := by decide +kernel
theorem ok_law_size (T : Txt K w mg Z) : FnOk P w K mg base CX0 1 Z.a_law_size Z.d_law_size ["_law_one", "_law_far"] (sp_row_size K) := by
  refine T.F_law_size.ok sc_law_size (fun vs H Q E h => ?_) (fun cdv A outer s H vs Q E hr h => ?_)
  · obtain ⟨a, u, r, far, rfl, _⟩ := h
    rfl
  · obtain ⟨a, u, r, far, rfl, hS, hu, hk, k⟩ := h
    refine ⟨_, (pss_cons (ps_if (pt_cmpR op_eq (pe_ix ix_tup (pv 0) pe_int (fun _ _ => rfl)) pe_str (nomark _)) (pss_one (ps_ret (pe_ix ix_tup (pv 0) pe_int (fun _ _ => rfl)))) pss_nil)
      (pss_cons (ps_set (i := 2) sc_law_size.nd rfl (Or.inl rfl) (pe_disp (pps_cons pe_str (pe_lst (pa_cons pe_int (pa_cons pe_int pa_nil))) (pps_cons pe_str (pe_lst (pa_cons pe_int (pa_cons pe_int pa_nil))) (pps_cons pe_str (pe_lst (pa_cons pe_int (pa_cons pe_int pa_nil))) (pps_cons pe_str (pe_lst (pa_cons pe_int (pa_cons pe_int pa_nil))) (pps_cons pe_str (pe_lst (pa_cons pe_int (pa_cons pe_int pa_nil))) pps_nil))))) (by rfl) (by rfl) (fun z => by cases z) (by decide)))
      (pss_one (ps_ret (pe_ix ix_list (pe_dget2 (hu_of hr) (pv 2) (pe_ix ix_tup (pv 0) pe_int (fun _ _ => rfl)) (pe_lst (pa_cons pe_int (pa_cons pe_int pa_nil))) ⟨rfl, rfl, rfl, rfl⟩) (pe_callTy call_int1 (by rfl) T.n_int boot_int (pa_cons (pv 1) pa_nil)) (fun _ _ => rfl)))))), ?_⟩
    refine ⟨.ref a, rfl, a, _, 0, .str u, rfl, rfl, hS, atI_nat (j := 0) rfl, rfl, _, rfl, ite2 (fun h1 => ?_) (fun h1 => ?_)⟩
    · have e1 : u = "room" := V.str.inj (of_decide_eq_true h1)
      obtain ⟨j, rfl⟩ := hk e1
      refine ⟨.ref a, rfl, a, _, 1, .int j, rfl, rfl, hS, atI_nat (j := 1) rfl, ?_⟩
      have e : rsz u (cnt [.int j]) far = j := by
        unfold rsz
        rw [if_pos e1]
        rfl
      rw [← e]
      exact k _ (Same.refl _)
    · have e1 : u ≠ "room" := fun e => h1 (decide_eq_true (by rw [e]))
      refine fun d hd => ?_
      have s0 : Same H (upd H d (.dK [])) := Same.new hd
      have ed : (upd H d (.dK [])) d = some (.dK []) := upd_same
      generalize upd H d (.dK []) = H0 at s0 ed ⊢
      refine ⟨(by show 2 ≤ sizeLine; decide), fun p1 h => ?_⟩
      have s1 : Same H0 (upd H0 p1 (.lst [V.int 2, V.int 2])) := Same.new h
      have e1' : (upd H0 p1 (.lst [V.int 2, V.int 2])) p1 = some (.lst [V.int 2, V.int 2]) := upd_same
      generalize upd H0 p1 (.lst [V.int 2, V.int 2]) = H1 at s1 e1' ⊢
      refine ⟨(by show 2 ≤ sizeLine; decide), fun p2 h => ?_⟩
      have s2 : Same H1 (upd H1 p2 (.lst [V.int 1, V.int 2])) := Same.new h
      have e2 : (upd H1 p2 (.lst [V.int 1, V.int 2])) p2 = some (.lst [V.int 1, V.int 2]) := upd_same
      generalize upd H1 p2 (.lst [V.int 1, V.int 2]) = H2 at s2 e2 ⊢
      refine ⟨(by show 2 ≤ sizeLine; decide), fun p3 h => ?_⟩
      have s3 : Same H2 (upd H2 p3 (.lst [V.int 1, V.int 3])) := Same.new h
      have e3 : (upd H2 p3 (.lst [V.int 1, V.int 3])) p3 = some (.lst [V.int 1, V.int 3]) := upd_same
      generalize upd H2 p3 (.lst [V.int 1, V.int 3]) = H3 at s3 e3 ⊢
      refine ⟨(by show 2 ≤ sizeLine; decide), fun p4 h => ?_⟩
      have s4 : Same H3 (upd H3 p4 (.lst [V.int 1, V.int 5])) := Same.new h
      have e4 : (upd H3 p4 (.lst [V.int 1, V.int 5])) p4 = some (.lst [V.int 1, V.int 5]) := upd_same
      generalize upd H3 p4 (.lst [V.int 1, V.int 5]) = H4 at s4 e4 ⊢
      refine ⟨(by show 2 ≤ sizeLine; decide), fun p5 h => ?_⟩
      have s5 : Same H4 (upd H4 p5 (.lst [V.int 1, V.int 3])) := Same.new h
      have e5 : (upd H4 p5 (.lst [V.int 1, V.int 3])) p5 = some (.lst [V.int 1, V.int 3]) := upd_same
      generalize upd H4 p5 (.lst [V.int 1, V.int 3]) = H5 at s5 e5 ⊢
      have u4 : Same H4 H5 := s5
      have u3 : Same H3 H5 := s4.trans u4
      have u2 : Same H2 H5 := s3.trans u3
      have u1 : Same H1 H5 := s2.trans u2
      have u0 : Same H0 H5 := s1.trans u1
      have ed5 := u0 _ _ ed
      have n1 : p1 ≠ d := ne_of (u1 _ _ e1') ed5 (fun z => nomatch z)
      have n2 : p2 ≠ d := ne_of (u2 _ _ e2) ed5 (fun z => nomatch z)
      have n3 : p3 ≠ d := ne_of (u3 _ _ e3) ed5 (fun z => nomatch z)
      have n4 : p4 ≠ d := ne_of (u4 _ _ e4) ed5 (fun z => nomatch z)
      have n5 : p5 ≠ d := ne_of e5 ed5 (fun z => nomatch z)
      refine ⟨ed5, [(.inr "put", .ref p1), (.inr "name", .ref p2), (.inr "jump", .ref p3), (.inr "ifzero", .ref p4), (.inr "call", .ref p5)], rfl, (by show 5 ≤ 15; decide), ?_⟩
      have s6 : Same H (upd H5 d (.dK (mergeK [] [(.inr "put", .ref p1), (.inr "name", .ref p2), (.inr "jump", .ref p3), (.inr "ifzero", .ref p4), (.inr "call", .ref p5)]))) := Same.put (s0.trans u0) hd
      have f1 : (upd H5 d (.dK (mergeK [] [(.inr "put", .ref p1), (.inr "name", .ref p2), (.inr "jump", .ref p3), (.inr "ifzero", .ref p4), (.inr "call", .ref p5)]))) p1 = some (.lst [.int 2, .int 2]) := by rw [upd_ne n1]; exact u1 _ _ e1'
      have f2 : (upd H5 d (.dK (mergeK [] [(.inr "put", .ref p1), (.inr "name", .ref p2), (.inr "jump", .ref p3), (.inr "ifzero", .ref p4), (.inr "call", .ref p5)]))) p2 = some (.lst [.int 1, .int 2]) := by rw [upd_ne n2]; exact u2 _ _ e2
      have f3 : (upd H5 d (.dK (mergeK [] [(.inr "put", .ref p1), (.inr "name", .ref p2), (.inr "jump", .ref p3), (.inr "ifzero", .ref p4), (.inr "call", .ref p5)]))) p3 = some (.lst [.int 1, .int 3]) := by rw [upd_ne n3]; exact u3 _ _ e3
      have f4 : (upd H5 d (.dK (mergeK [] [(.inr "put", .ref p1), (.inr "name", .ref p2), (.inr "jump", .ref p3), (.inr "ifzero", .ref p4), (.inr "call", .ref p5)]))) p4 = some (.lst [.int 1, .int 5]) := by rw [upd_ne n4]; exact u4 _ _ e4
      have f5 : (upd H5 d (.dK (mergeK [] [(.inr "put", .ref p1), (.inr "name", .ref p2), (.inr "jump", .ref p3), (.inr "ifzero", .ref p4), (.inr "call", .ref p5)]))) p5 = some (.lst [.int 1, .int 3]) := by rw [upd_ne n5]; exact e5
      have f0 : (upd H5 d (.dK (mergeK [] [(.inr "put", .ref p1), (.inr "name", .ref p2), (.inr "jump", .ref p3), (.inr "ifzero", .ref p4), (.inr "call", .ref p5)]))) d = some (.dK (mergeK [] [(.inr "put", .ref p1), (.inr "name", .ref p2), (.inr "jump", .ref p3), (.inr "ifzero", .ref p4), (.inr "call", .ref p5)])) := upd_same
      generalize upd H5 d (.dK (mergeK [] [(.inr "put", .ref p1), (.inr "name", .ref p2), (.inr "jump", .ref p3), (.inr "ifzero", .ref p4), (.inr "call", .ref p5)])) = H6 at s6 f0 f1 f2 f3 f4 f5 ⊢
      refine ⟨.ref d, rfl, d, rfl, .inl ⟨_, .inl f0⟩, .ref a, rfl, a, _, 0, .str u, rfl, rfl, Same.sqT s6 hS, atI_nat (j := 0) rfl, (by show 2 ≤ sizeLine; decide), fun pd hpd => ?_⟩
      have s7 : Same H6 (upd H6 pd (.lst [V.int 1, V.int 1])) := Same.new hpd
      have fd : (upd H6 pd (.lst [V.int 1, V.int 1])) pd = some (.lst [.int 1, .int 1]) := upd_same
      generalize upd H6 pd (.lst [V.int 1, V.int 1]) = H7 at s7 fd ⊢
      have pick : ∃ (q : Addr) (x y : Int), (valV (mergeK [] [(.inr "put", V.ref p1), (.inr "name", .ref p2), (.inr "jump", .ref p3), (.inr "ifzero", .ref p4), (.inr "call", .ref p5)]) (.inr u)).getD (.ref pd) = .ref q ∧ H7 q = some (.lst [.int x, .int y]) ∧ (x, y) = tab u := by
        have hu2 := hu
        simp only [W16, List.mem_cons, List.not_mem_nil, or_false] at hu2
        rcases hu2 with rfl | rfl | rfl | rfl | rfl | rfl | rfl | rfl | rfl | rfl | rfl | rfl | rfl | rfl | rfl | rfl
        · exact ⟨p1, 2, 2, rfl, s7 _ _ f1, by decide +kernel⟩
        · exact ⟨p2, 1, 2, rfl, s7 _ _ f2, by decide +kernel⟩
        · exact ⟨pd, 1, 1, rfl, fd, by decide +kernel⟩
        · exact ⟨pd, 1, 1, rfl, fd, by decide +kernel⟩
        · exact ⟨pd, 1, 1, rfl, fd, by decide +kernel⟩
        · exact ⟨pd, 1, 1, rfl, fd, by decide +kernel⟩
        · exact ⟨p3, 1, 3, rfl, s7 _ _ f3, by decide +kernel⟩
        · exact ⟨p4, 1, 5, rfl, s7 _ _ f4, by decide +kernel⟩
        · exact ⟨p5, 1, 3, rfl, s7 _ _ f5, by decide +kernel⟩
        · exact ⟨pd, 1, 1, rfl, fd, by decide +kernel⟩
        · exact ⟨pd, 1, 1, rfl, fd, by decide +kernel⟩
        · exact ⟨pd, 1, 1, rfl, fd, by decide +kernel⟩
        · exact ⟨pd, 1, 1, rfl, fd, by decide +kernel⟩
        · exact ⟨pd, 1, 1, rfl, fd, by decide +kernel⟩
        · exact ⟨pd, 1, 1, rfl, fd, by decide +kernel⟩
        · exact ⟨pd, 1, 1, rfl, fd, by decide +kernel⟩
      obtain ⟨q, x, y, eq, fq, et⟩ := pick
      refine ⟨_, DGet.k (k := .inr u) (s7 _ _ f0), ?_⟩
      rw [eq]
      have ex : x = (tab u).1 := congrArg Prod.fst et
      have ey : y = (tab u).2 := congrArg Prod.snd et
      have fin : ∀ z : Int, z = (if far = true then (tab u).2 else (tab u).1) → Q (.int z) H7 := fun z ez => by
        rw [ez, tab_rsz u hu far e1, ← rsz_k (k := cnt r) e1]
        exact k _ (s6.trans s7)
      refine ⟨.bl far, rfl, .inr ⟨far, rfl, ?_⟩⟩
      cases far with
      | false => exact ⟨q, _, 0, .int x, rfl, rfl, SqL.of fq, atI_nat (j := 0) rfl, fin _ ex⟩
      | true => exact ⟨q, _, 1, .int y, rfl, rfl, SqL.of fq, atI_nat (j := 1) rfl, fin _ ey⟩
theorem ok_law_fields (T : Txt K w mg Z) : FnOk P w K mg base CX0 1 Z.a_law_fields Z.d_law_fields ["_law_one", "_law_far"] (sp_row_fields K) := by
  refine T.F_law_fields.ok sc_law_fields (fun vs H Q E h => ?_) (fun cdv A outer s H vs Q E hr h => ?_)
  · obtain ⟨a, u, r, far, rfl, _⟩ := h
    rfl
  · obtain ⟨a, u, r, far, rfl, hS, hu, k⟩ := h
    refine ⟨_, (pss_cons (ps_if (pt_cmpR op_eq (pe_ix ix_tup (pv 0) pe_int (fun _ _ => rfl)) pe_str (nomark _)) (pss_one (ps_ret (pe_lst (pa_cons (pe_tup (pa_cons pe_int (pa_cons pe_str pa_nil))) pa_nil)))) pss_nil)
      (pss_cons (ps_if (PW.pt (pw_or (pt_not (pt_val (pv 1))) (pw_or1 (pt_cmpR op_notIn_seq (pe_ix ix_tup (pv 0) pe_int (fun _ _ => rfl)) (pe_lst (pa_cons pe_str (pa_cons pe_str (pa_cons pe_str (pa_cons pe_str pa_nil))))) (by rfl))))) (pss_one (ps_ret (pe_lst pa_nil))) pss_nil)
      (pss_one (ps_ret (pe_ifExp (pt_cmpR op_eq (pe_ix ix_tup (pv 0) pe_int (fun _ _ => rfl)) pe_str (nomark _)) (pe_lst (pa_cons (pe_tup (pa_cons pe_int (pa_cons pe_str pa_nil))) (pa_cons (pe_tup (pa_cons pe_int (pa_cons pe_str pa_nil))) pa_nil))) (pe_lst (pa_cons (pe_tup (pa_cons pe_int (pa_cons pe_str pa_nil))) (pa_cons (pe_tup (pa_cons pe_int (pa_cons pe_str pa_nil))) pa_nil)))))))), ?_⟩
    refine ⟨.ref a, rfl, a, _, 0, .str u, rfl, rfl, hS, atI_nat (j := 0) rfl, rfl, _, rfl, ite2 (fun h1 => ?_) (fun h1 => ?_)⟩
    · have e1 : u = "address" := V.str.inj (of_decide_eq_true h1)
      refine ⟨(by show 2 ≤ sizeLine; decide), fun q hq => ⟨(by show 1 ≤ sizeLine; decide), fun p hp => ?_⟩⟩
      have s1 : Same H (upd H q (.tup [.int 0, .str "whole"])) := Same.new hq
      have e : fdw u far = ([(0, "whole")] : List (Int × Str)) := by
        unfold fdw
        rw [if_pos e1]
      refine k _ p (s1.trans (Same.new hp)) (s1.free hp) ?_
      rw [e]
      exact .one upd_same ((Same.new hp) _ _ upd_same)
    · have e1 : u ≠ "address" := fun e => h1 (decide_eq_true (by rw [e]))
      have fin : ¬ (far = true ∧ (highV u).isSome = true) → ∀ H1, Same H H1 → ∀ p, H1 p = none → Q (.ref p) (upd H1 p (.lst [])) := fun z H1 s1 p hp => by
        refine k _ p (s1.trans (Same.new hp)) (s1.free hp) ?_
        have e : fdw u far = [] := by
          unfold fdw
          rw [if_neg e1, if_neg z]
        rw [e]
        exact .nil upd_same
      refine ⟨.bl far, rfl, far, rfl, ?_⟩
      cases far with
      | false => exact iteT (iteT ⟨Nat.zero_le _, fin (fun z => nomatch z.1) H (Same.refl _)⟩)
      | true =>
        refine iteF ⟨.ref a, rfl, a, _, 0, .str u, rfl, rfl, hS, atI_nat (j := 0) rfl, (by show 4 ≤ sizeLine; decide), fun q hq => ⟨q, four, rfl, .inl (SqL.of upd_same), rfl, rfl, _, rfl, ?_⟩⟩
        have s1 : Same H (upd H q (.lst [.str "name", .str "jump", .str "ifzero", .str "call"])) := Same.new hq
        rw [in_four u hu]
        cases hl : (highV u).isSome with
        | false =>
          refine iteT ⟨Nat.zero_le _, fin (fun z => ?_) _ s1⟩
          rw [hl] at z
          exact nomatch z.2
        | true =>
          have hv := high_is u hu hl
          generalize upd H q (.lst [.str "name", .str "jump", .str "ifzero", .str "call"]) = H1 at s1 ⊢
          refine iteF ⟨.ref a, rfl, a, _, 0, .str u, rfl, rfl, Same.sqT s1 hS, atI_nat (j := 0) rfl, rfl, _, rfl, ite2 (fun h2 => ?_) (fun h2 => ?_)⟩
          · have e2 : u = "ifzero" := V.str.inj (of_decide_eq_true h2)
            rw [if_pos e2] at hv
            have e : fdw u true = ([(2, "high"), (3, "low")] : List (Int × Str)) := by
              unfold fdw
              rw [if_neg e1, if_pos ⟨rfl, hl⟩, hv]
              rfl
            refine ⟨(by show 2 ≤ sizeLine; decide), fun p1 h => ?_⟩
            have s2 : Same H1 (upd H1 p1 (.tup [V.int 2, V.str "high"])) := Same.new h
            have f1 : (upd H1 p1 (.tup [V.int 2, V.str "high"])) p1 = some (.tup [V.int 2, V.str "high"]) := upd_same
            generalize upd H1 p1 (.tup [V.int 2, V.str "high"]) = H2 at s2 f1 ⊢
            refine ⟨(by show 2 ≤ sizeLine; decide), fun p2 h2 => ⟨(by show 2 ≤ sizeLine; decide), fun p hp => ?_⟩⟩
            have s3 : Same H2 (upd H2 p2 (.tup [V.int 3, V.str "low"])) := Same.new h2
            refine k _ p (((s1.trans s2).trans s3).trans (Same.new hp)) (((s1.trans s2).trans s3).free hp) ?_
            rw [e]
            exact .two upd_same ((Same.new hp) _ _ (s3 _ _ f1)) ((Same.new hp) _ _ upd_same)
          · have e2 : u ≠ "ifzero" := fun e => h2 (decide_eq_true (by rw [e]))
            rw [if_neg e2] at hv
            have e : fdw u true = ([(0, "high"), (1, "low")] : List (Int × Str)) := by
              unfold fdw
              rw [if_neg e1, if_pos ⟨rfl, hl⟩, hv]
              rfl
            refine ⟨(by show 2 ≤ sizeLine; decide), fun p1 h => ?_⟩
            have s2 : Same H1 (upd H1 p1 (.tup [V.int 0, V.str "high"])) := Same.new h
            have f1 : (upd H1 p1 (.tup [V.int 0, V.str "high"])) p1 = some (.tup [V.int 0, V.str "high"]) := upd_same
            generalize upd H1 p1 (.tup [V.int 0, V.str "high"]) = H2 at s2 f1 ⊢
            refine ⟨(by show 2 ≤ sizeLine; decide), fun p2 h2 => ⟨(by show 2 ≤ sizeLine; decide), fun p hp => ?_⟩⟩
            have s3 : Same H2 (upd H2 p2 (.tup [V.int 1, V.str "low"])) := Same.new h2
            refine k _ p (((s1.trans s2).trans s3).trans (Same.new hp)) (((s1.trans s2).trans s3).free hp) ?_
            rw [e]
            exact .two upd_same ((Same.new hp) _ _ (s3 _ _ f1)) ((Same.new hp) _ _ upd_same)
end

theorem paired_get {R : V → V → Prop} : ∀ {xs ys : List V}, Paired R xs ys → ∀ (i : Nat) (u v : V), xs[i]? = some u → ys[i]? = some v → R u v
  | _, _, .nil, _, _, _, h, _ => by cases h
  | _, _, .cons r _, 0, _, _, h, g => by
    cases h
    cases g
    exact r
  | _, _, .cons _ t, i + 1, u, v, h, g => paired_get t i u v h g
theorem Eqd.pairs {K : PySem.W.Frag} {H : Hp} {a b : Addr} {xs ys : List V} {n : Nat} (h1 : SqL K H a xs) (h2 : SqL K H b ys) (hl : xs.length ≤ 100000) (hp : Paired (Eqd K H n) xs ys) : Eqd K H (n + 1) (.ref a) (.ref b) :=
  .inr ⟨a, b, xs, ys, rfl, rfl, .inl ⟨h1, h2⟩, Paired.length hp, hl, paired_get hp⟩
theorem Eqd.up {K : PySem.W.Frag} {H : Hp} : ∀ {n : Nat} {x y : V}, Eqd K H n x y → Eqd K H (n + 1) x y
  | 0, _, _, h => .inl h
  | n + 1, _, _, .inl h => .inl h
  | n + 1, _, _, .inr ⟨a, b, xs, ys, e1, e2, h, hl, hz, hi⟩ => .inr ⟨a, b, xs, ys, e1, e2, h, hl, hz, fun i u v hu hv => (hi i u v hu hv).up⟩
section
variable {P : Program} {w : World} {K : PySem.W.Frag} {mg : Str → Option Value} {base : Heap} {Z : Fs}
def sp_law (K : PySem.W.Frag) : Sp := fun vs H Q _ => ∃ (a : Addr) (ns : List Int), vs = [.ref a] ∧ SqL K H a (ns.map V.int) ∧ ns.length ≤ 63 ∧ ∀ H', Q (.bl true) H'
theorem ok_law (T : Txt K w mg Z) : FnOk P w K mg base CX0 6 Z.a_law Z.d_law ["_law_script"] (sp_law K) := by
  have G_law_bag : FnOk P w K mg base CX0 1 Z.a_law_bag Z.d_law_bag ["_law_script"] (sp_law_bag K) := ok_law_bag T
  have G_law_titles : FnOk P w K mg base CX0 3 Z.a_law_titles Z.d_law_titles ["_law_bag_here", "_law_many"] (sp_law_titles K) := ok_law_titles T
  have G_law_each : FnOk P w K mg base CX0 5 Z.a_law_each Z.d_law_each ["_law_bag_here", "_law_titles_here"] sp_law_each := ok_law_each T
  have G_law_size : FnOk P w K mg base CX0 1 Z.a_law_size Z.d_law_size ["_law_one", "_law_far"] (sp_row_size K) := ok_law_size T
  have G_law_fields : FnOk P w K mg base CX0 1 Z.a_law_fields Z.d_law_fields ["_law_one", "_law_far"] (sp_row_fields K) := ok_law_fields T
  have G_row_size : FnOk P w K mg base CX0 1 Z.a_row_size Z.d_row_size ["row", "long"] (sp_row_size K) := ok_row_size T
  have G_row_fields : FnOk P w K mg base CX0 1 Z.a_row_fields Z.d_row_fields ["row", "long"] (sp_row_fields K) := ok_row_fields T
  have G_law_same : FnOk P w K mg base CX0 4 Z.a_law_same Z.d_law_same ["_law_found", "_law_due"] (sp_law_same K 3) := ok_law_same T 3
  refine T.F_law.ok sc_law (fun vs H Q E h => ?_) (fun cdv A outer s H vs Q E hr h => ?_)
  · obtain ⟨a, ns, rfl, _⟩ := h
    rfl
  · obtain ⟨a, ns, rfl, hS, hlen, k⟩ := h
    refine ⟨_, (pss_cons (ps_set (i := 1) sc_law.nd rfl (Or.inl rfl) (pe_call G_law_bag (hr.mono (by omega)) (by rfl) T.m_law_bag T.F_law_bag.kp T.b_law_bag .nil pass0 (pa_cons (pv 0) pa_nil)))
      (pss_cons (ps_set (i := 2) sc_law.nd rfl (Or.inl rfl) (pe_call G_law_titles (hr.mono (by omega)) (by rfl) T.m_law_titles T.F_law_titles.kp T.b_law_titles .nil pass0 (pa_cons (pv 1) (pa_cons pe_int pa_nil))))
      (pss_cons (ps_for PassesOwn.never rfl (pi_list (pe_call G_law_each (hr.mono (by omega)) (by rfl) T.m_law_each T.F_law_each.kp T.b_law_each .nil pass0 (pa_cons (pv 1) (pa_cons (pv 2) pa_nil)))) (pg_name (i := 3) sc_law.nd rfl (Or.inl rfl)) (pss_cons (ps_for PassesOwn.never rfl (pi_list (pe_lst (pa_cons pe_bl (pa_cons pe_bl pa_nil)))) (pg_name (i := 4) sc_law.nd rfl (Or.inl rfl)) (pss_cons (ps_set (i := 5) sc_law.nd rfl (Or.inl rfl) (pe_lst (pa_cons (pe_call G_law_size (hr.mono (by omega)) (by rfl) T.m_law_size T.F_law_size.kp T.b_law_size .nil pass0 (pa_cons (pv 3) (pa_cons (pv 4) pa_nil))) (pa_cons (pe_call G_law_fields (hr.mono (by omega)) (by rfl) T.m_law_fields T.F_law_fields.kp T.b_law_fields .nil pass0 (pa_cons (pv 3) (pa_cons (pv 4) pa_nil))) pa_nil))))
      (pss_cons (ps_set (i := 6) sc_law.nd rfl (Or.inl rfl) (pe_call G_row_fields (hr.mono (by omega)) (by rfl) T.m_row_fields T.F_row_fields.kp (Classical.choose_spec T.d_row_fields_2).2 (Classical.choose_spec T.d_row_fields_2).1 pass0 (pa_cons (pv 3) (pa_cons (pv 4) pa_nil))))
      (pss_cons (ps_set (i := 7) sc_law.nd rfl (Or.inl rfl) (pe_lst (pa_cons (pe_call G_row_size (hr.mono (by omega)) (by rfl) T.m_row_size T.F_row_size.kp (Classical.choose_spec T.d_row_size_2).2 (Classical.choose_spec T.d_row_size_2).1 pass0 (pa_cons (pv 3) (pa_cons (pv 4) pa_nil))) (pa_cons (pv 6) (pa_cons (pe_callN0 G_row_size (hr.mono (by omega)) (by rfl) T.m_row_size T.F_row_size.kp (Classical.choose_spec T.d_row_size_0_long_row) pass0 (pk_cons (pv 4) (pk_cons (pv 3) pk_nil))) (pa_cons (pe_callN0 G_row_fields (hr.mono (by omega)) (by rfl) T.m_row_fields T.F_row_fields.kp (Classical.choose_spec T.d_row_fields_0_row_long) pass0 (pk_cons (pv 3) (pk_cons (pv 4) pk_nil))) pa_nil))))))
      (pss_cons (ps_if (pt_not (pt_val (pe_call G_law_same (hr.mono (by omega)) (by rfl) T.m_law_same T.F_law_same.kp T.b_law_same .nil pass0 (pa_cons (pv 7) (pa_cons (pe_op op_cat (pv 5) (pv 5)) pa_nil))))) (pss_one (ps_ret pe_bl)) pss_nil)
      (pss_cons (ps_expr (pe_bm PySem.F.plainAttrs_list PySem.F.slot_list_append PySem.F.type_list_append mt_append (pv 6) (pa_cons (pe_tup (pa_cons pe_int (pa_cons pe_str pa_nil))) pa_nil)))
      (pss_cons (ps_expr (pe_bm0 PySem.F.plainAttrs_list PySem.F.slot_list_reverse PySem.F.type_list_reverse mt_reverse (pv 6)))
      (pss_one (ps_if (pt_not (pt_val (pe_call G_law_same (hr.mono (by omega)) (by rfl) T.m_law_same T.F_law_same.kp T.b_law_same .nil pass0 (pa_cons (pe_call G_row_fields (hr.mono (by omega)) (by rfl) T.m_row_fields T.F_row_fields.kp (Classical.choose_spec T.d_row_fields_2).2 (Classical.choose_spec T.d_row_fields_2).1 pass0 (pa_cons (pv 3) (pa_cons (pv 4) pa_nil))) (pa_cons (pe_ix ix_list (pv 5) pe_int (fun _ _ => rfl)) pa_nil))))) (pss_one (ps_ret pe_bl)) pss_nil)))))))))
      (pss_one (ps_if (pt_not (pt_val (pe_call G_law_same (hr.mono (by omega)) (by rfl) T.m_law_same T.F_law_same.kp T.b_law_same .nil pass0 (pa_cons (pe_lst (pa_cons (pe_call G_row_size (hr.mono (by omega)) (by rfl) T.m_row_size T.F_row_size.kp (Classical.choose_spec T.d_row_size_1).2 (Classical.choose_spec T.d_row_size_1).1 pass0 (pa_cons (pv 3) pa_nil)) (pa_cons (pe_call G_row_fields (hr.mono (by omega)) (by rfl) T.m_row_fields T.F_row_fields.kp (Classical.choose_spec T.d_row_fields_1).2 (Classical.choose_spec T.d_row_fields_1).1 pass0 (pa_cons (pv 3) pa_nil)) pa_nil))) (pa_cons (pe_lst (pa_cons (pe_call G_law_size (hr.mono (by omega)) (by rfl) T.m_law_size T.F_law_size.kp T.b_law_size .nil pass0 (pa_cons (pv 3) (pa_cons pe_bl pa_nil))) (pa_cons (pe_call G_law_fields (hr.mono (by omega)) (by rfl) T.m_law_fields T.F_law_fields.kp T.b_law_fields .nil pass0 (pa_cons (pv 3) (pa_cons pe_bl pa_nil))) pa_nil))) pa_nil))))) (pss_one (ps_ret pe_bl)) pss_nil))))
      (pss_one (ps_ret (pe_call G_law_same (hr.mono (by omega)) (by rfl) T.m_law_same T.F_law_same.kp T.b_law_same .nil pass0 (pa_cons (pe_glob (v := .int 4) (by rfl) (Classical.choose_spec T.g_STUB) ⟨_, rfl⟩) (pa_cons pe_int pa_nil)))))))), ?_⟩
    refine ⟨.ref a, rfl, a, ns, rfl, hS, hlen, fun H0 b l s0 hb0 _ B0 => ?_⟩
    refine ⟨.ref b, rfl, b, l, rfl, B0, fun H1 t zs s1 B1 ht0 nt _ et lz hz => ?_⟩
    refine ⟨.ref b, rfl, .ref t, rfl, b, l, t, zs, rfl, B1, ⟨et, nt, by omega, by omega⟩, fun H2 q rs s2 B2 eq nq hrs lrs => ?_⟩
    refine ⟨q, rfl, ⟨_, SqL.of eq⟩, for_list (K := K) (a := q) (xs := rs) (fun _ σ H' => ∃ (y3 y4 y5 y6 y7 : Option V), σ = [some (.ref a), some (.ref b), some (.ref t), y3, y4, y5, y6, y7] ∧ Same H2 H')
      ⟨_, _, _, _, _, rfl, Same.refl _⟩ (fun _ σ H' _ ⟨_, _, _, _, _, _, s'⟩ => SqL.of (s' _ _ eq)) ?_ ?_⟩
    · rintro i x σ H hx ⟨y3, y4, y5, y6, y7, rfl, sH⟩
      obtain ⟨ra, xs, rfl, _, ex, any⟩ := hrs x (List.mem_of_getElem? hx)
      obtain ⟨u, r, rfl, hu, hk⟩ := any.word
      replace ex := sH _ _ ex
      -- for far in [False, True]
      refine ⟨(by show 2 ≤ sizeLine; decide), fun f hf => ?_⟩
      have sf : Same H2 (upd H f (.lst [V.bl false, V.bl true])) := sH.trans (Same.new hf)
      have ef : (upd H f (.lst [V.bl false, V.bl true])) f = some (.lst [V.bl false, V.bl true]) := upd_same
      replace ex := Same.new (o := .lst [V.bl false, V.bl true]) hf _ _ ex
      generalize upd H f (.lst [V.bl false, V.bl true]) = HF at sf ef ex ⊢
      clear hf
      refine ⟨f, rfl, ⟨_, SqL.of ef⟩, for_list (K := K) (a := f) (xs := [V.bl false, V.bl true]) (fun _ σ H' => ∃ (y4 y5 y6 y7 : Option V), σ = [some (.ref a), some (.ref b), some (.ref t), some (.ref ra), y4, y5, y6, y7] ∧ Same HF H')
        ⟨_, _, _, _, rfl, Same.refl _⟩ (fun _ σ H' _ ⟨_, _, _, _, _, s'⟩ => SqL.of (s' _ _ ef)) ?_ ?_⟩
      · rintro j y σ G hy ⟨y4, y5, y6, y7, rfl, sG⟩
        obtain ⟨far, rfl⟩ : ∃ far, y = .bl far := by
          match j, hy with
          | 0, h => exact ⟨_, (Option.some.inj h).symm⟩
          | 1, h => exact ⟨_, (Option.some.inj h).symm⟩
        have e0 := sG _ _ ex
        -- due
        refine ⟨.ref ra, rfl, .bl far, rfl, ra, u, r, far, rfl, SqT.of e0, hu, hk, fun G1 s1 => ?_⟩
        have e1 := s1 _ _ e0
        refine ⟨.ref ra, rfl, .bl far, rfl, ra, u, r, far, rfl, SqT.of e1, hu, fun G2 pf s2 npf fd2 => ?_⟩
        refine ⟨(by show 2 ≤ sizeLine; decide), fun pd hd => ?_⟩
        have s3 : Same G2 (upd G2 pd (.lst [V.int (rsz u (cnt r) far), V.ref pf])) := Same.new hd
        have ed : (upd G2 pd (.lst [V.int (rsz u (cnt r) far), V.ref pf])) pd = some (.lst [V.int (rsz u (cnt r) far), V.ref pf]) := upd_same
        generalize upd G2 pd (.lst [V.int (rsz u (cnt r) far), V.ref pf]) = G3 at s3 ed ⊢
        have e3 := s3 _ _ (s2 _ _ e1)
        have fd3 := fd2.same s3
        -- told
        refine ⟨.ref ra, rfl, .bl far, rfl, ra, u, r, far, rfl, SqT.of e3, hu, fun G4 pt s4 npt fd4 => ?_⟩
        have e4 := s4 _ _ e3
        have fd34 := fd3.same s4
        have nfp : pf ≠ pt := by
          obtain ⟨as, q1, _⟩ := fd3
          exact ne_of_none q1 npt
        have ndp : pd ≠ pt := ne_of_none ed npt
        -- found
        refine ⟨.ref ra, rfl, .bl far, rfl, ra, u, r, far, rfl, SqT.of e4, hu, hk, fun G5 s5 => ?_⟩
        refine ⟨_, rfl, .bl far, rfl, .ref ra, rfl, rfl, rfl, ra, u, r, far, rfl, SqT.of (s5 _ _ e4), hu, hk, fun G6 s6 => ?_⟩
        refine ⟨.ref ra, rfl, .bl far, rfl, rfl, rfl, ra, u, r, far, rfl, SqT.of (s6 _ _ (s5 _ _ e4)), hu, fun G7 pu s7 npu fd7 => ?_⟩
        refine ⟨(by show 4 ≤ sizeLine; decide), fun pg hg => ?_⟩
        have s8 : Same G7 (upd G7 pg (.lst [V.int (rsz u (cnt r) far), V.ref pt, V.int (rsz u (cnt r) far), V.ref pu])) := Same.new hg
        have eg : (upd G7 pg (.lst [V.int (rsz u (cnt r) far), V.ref pt, V.int (rsz u (cnt r) far), V.ref pu])) pg = some (.lst [V.int (rsz u (cnt r) far), V.ref pt, V.int (rsz u (cnt r) far), V.ref pu]) := upd_same
        generalize upd G7 pg (.lst [V.int (rsz u (cnt r) far), V.ref pt, V.int (rsz u (cnt r) far), V.ref pu]) = G8 at s8 eg ⊢
        have t8 : Same G4 G8 := ((s5.trans s6).trans s7).trans s8
        have ed8 := t8 _ _ (s4 _ _ ed)
        refine ⟨.ref pg, rfl, .ref pd, rfl, .ref pd, rfl, pd, pd, _, _, rfl, rfl, ed8, ed8, (by show 4 ≤ sizeLine; decide), fun pc hc => ?_⟩
        have s9 : Same G8 (upd G8 pc (.lst ([V.int (rsz u (cnt r) far), V.ref pf] ++ [V.int (rsz u (cnt r) far), V.ref pf]))) := Same.new hc
        have ec : (upd G8 pc (.lst ([V.int (rsz u (cnt r) far), V.ref pf] ++ [V.int (rsz u (cnt r) far), V.ref pf]))) pc = some (.lst [V.int (rsz u (cnt r) far), V.ref pf, V.int (rsz u (cnt r) far), V.ref pf]) := upd_same
        generalize upd G8 pc (.lst ([V.int (rsz u (cnt r) far), V.ref pf] ++ [V.int (rsz u (cnt r) far), V.ref pf])) = G9 at s9 ec ⊢
        have t9 : Same G4 G9 := t8.trans s9
        have q1 : Eqd K G9 2 (.ref pt) (.ref pf) := (fd4.same t9).eqd (fd34.same t9)
        have q2 : Eqd K G9 2 (.ref pu) (.ref pf) := (fd7.same (s8.trans s9)).eqd (fd34.same t9)
        refine ⟨.ref pg, .ref pc, rfl, Eqd.pairs (SqL.of (s9 _ _ eg)) (SqL.of ec) (by show 4 ≤ 100000; decide) (.cons (Eqd.flat rfl) (.cons q1 (.cons (Eqd.flat rfl) (.cons q2 .nil)))), fun G10 s10 => ⟨true, rfl, iteF ?_⟩⟩
        have t10 : Same G4 G10 := t9.trans s10
        have fdt := fd4.same t10
        obtain ⟨as, et', la, lb, _⟩ := fdt
        -- told.append, told.reverse
        refine ⟨.ref pt, rfl, .inl ⟨rfl, _, SqL.of et'⟩, (by show 2 ≤ sizeLine; decide), fun pl hl => ?_⟩
        have et2 := Same.new (o := .tup [V.int 9, V.str "late"]) hl _ _ et'
        have s11 : Same G10 (upd G10 pl (.tup [V.int 9, V.str "late"])) := Same.new hl
        generalize upd G10 pl (.tup [V.int 9, V.str "late"]) = G11 at et2 s11 ⊢
        refine ⟨pt, _, _, rfl, rfl, et2, (by rw [List.length_map]; exact Nat.lt_of_le_of_lt (show as.length ≤ 10 by omega) (by decide)), ?_⟩
        refine ⟨.ref pt, rfl, .inl ⟨rfl, _, SqL.of upd_same⟩, pt, _, rfl, rfl, upd_same, ?_⟩
        have p12 : Stp pt G11 (upd (upd G11 pt (.lst (as.map V.ref ++ [V.ref pl]))) pt (.lst (as.map V.ref ++ [V.ref pl]).reverse)) := Stp.put.trans Stp.put
        have zG : G pt = none := (s1.trans (s2.trans s3)).free npt
        have s12 : Same G (upd (upd G11 pt (.lst (as.map V.ref ++ [V.ref pl]))) pt (.lst (as.map V.ref ++ [V.ref pl]).reverse)) := Same.put (Same.put ((((((s1.trans s2).trans s3).trans s4).trans t10)).trans s11) zG) zG
        have ntup : ∀ xs, G11 pt ≠ some (.tup xs) := fun xs z => by
          rw [et2] at z
          cases z
        have fdf := ((fd34.same (t10.trans s11)).stp p12 nfp ntup)
        have edf := p12 _ _ ndp (s11 _ _ (s10 _ _ (s9 _ _ ed8)))
        generalize upd (upd G11 pt (.lst (as.map V.ref ++ [V.ref pl]))) pt (.lst (as.map V.ref ++ [V.ref pl]).reverse) = G12 at s12 fdf edf ⊢
        -- once more
        refine ⟨.ref ra, rfl, .bl far, rfl, ra, u, r, far, rfl, SqT.of (s12 _ _ e0), hu, fun G13 pw s13 _ fdw' => ?_⟩
        refine ⟨.ref pd, rfl, pd, _, 1, .ref pf, rfl, rfl, SqL.of (s13 _ _ edf), atI_nat (j := 1) rfl, ?_⟩
        refine ⟨.ref pw, .ref pf, rfl, (fdw'.eqd (fdf.same s13)).up, fun G14 s14 => ⟨true, rfl, iteF ?_⟩⟩
        exact ⟨_, _, _, _, rfl, sG.trans (s12.trans (s13.trans s14))⟩
      · rintro σ G ⟨y4, y5, y6, y7, rfl, sG⟩
        have e0 := sG _ _ ex
        refine ⟨.ref ra, rfl, ra, u, r, false, rfl, SqT.of e0, hu, hk, fun G1 s1 => ?_⟩
        have e1 := s1 _ _ e0
        refine ⟨.ref ra, rfl, ra, u, r, false, rfl, SqT.of e1, hu, fun G2 pu s2 _ fd2 => ?_⟩
        have e2 := s2 _ _ e1
        refine ⟨(by show 2 ≤ sizeLine; decide), fun pg hg => ?_⟩
        have s3 : Same G2 (upd G2 pg (.lst [V.int (rsz u (cnt r) false), V.ref pu])) := Same.new hg
        have eg : (upd G2 pg (.lst [V.int (rsz u (cnt r) false), V.ref pu])) pg = some (.lst [V.int (rsz u (cnt r) false), V.ref pu]) := upd_same
        generalize upd G2 pg (.lst [V.int (rsz u (cnt r) false), V.ref pu]) = G3 at s3 eg ⊢
        have e3 := s3 _ _ e2
        refine ⟨.ref ra, rfl, ra, u, r, false, rfl, SqT.of e3, hu, hk, fun G4 s4 => ?_⟩
        have e4 := s4 _ _ e3
        refine ⟨.ref ra, rfl, ra, u, r, false, rfl, SqT.of e4, hu, fun G5 pw s5 _ fd5 => ?_⟩
        refine ⟨(by show 2 ≤ sizeLine; decide), fun pc hc => ?_⟩
        have s6 : Same G5 (upd G5 pc (.lst [V.int (rsz u (cnt r) false), V.ref pw])) := Same.new hc
        have ec : (upd G5 pc (.lst [V.int (rsz u (cnt r) false), V.ref pw])) pc = some (.lst [V.int (rsz u (cnt r) false), V.ref pw]) := upd_same
        generalize upd G5 pc (.lst [V.int (rsz u (cnt r) false), V.ref pw]) = G6 at s6 ec ⊢
        have q1 : Eqd K G6 2 (.ref pu) (.ref pw) := (fd2.same (s3.trans (s4.trans (s5.trans s6)))).eqd (fd5.same s6)
        refine ⟨.ref pg, .ref pc, rfl, Eqd.pairs (SqL.of ((s4.trans (s5.trans s6)) _ _ eg)) (SqL.of ec) (by show 2 ≤ 100000; decide) (.cons (Eqd.flat rfl) (.cons q1 .nil)), fun G7 s7 => ⟨true, rfl, iteF ?_⟩⟩
        exact ⟨_, _, _, _, _, rfl, sf.trans (sG.trans (s1.trans (s2.trans (s3.trans (s4.trans (s5.trans (s6.trans s7)))))))⟩
    · rintro σ H ⟨y3, y4, y5, y6, y7, rfl, sH⟩
      exact ⟨.int 4, .int 4, rfl, Eqd.flat rfl, fun G s => k _⟩
end

/-! ### what the top has written, the head -/
theorem all_mk {l : PySem.W.OpenLaw} {w : World} {K : PySem.W.Frag} {h : Heap} {mg : Str → Option Value} {fa : Addr} (X : K.In h) (G : h.Ns mainGlobals mg) (hfa : mg "law" = some (.ref fa))
    {f_row_size f_row_fields f_law_bag f_law_draw f_law_of f_law_same f_law_titles f_law_number f_law_r f_law_code_row f_law_data_row f_law_size f_law_fields f_law_each f_law  q_HIGH_CELLS q_LONG_SIZES : Addr}
    {od_row_size an_row_size od_row_fields an_row_fields od_law_bag an_law_bag od_law_draw an_law_draw od_law_of an_law_of od_law_same an_law_same od_law_titles an_law_titles od_law_number an_law_number od_law_r an_law_r od_law_code_row an_law_code_row od_law_data_row an_law_data_row od_law_size an_law_size od_law_fields an_law_fields od_law_each an_law_each od_law an_law : Option Addr} {sl_row_size sl_row_fields sl_law_bag sl_law_draw sl_law_of sl_law_same sl_law_titles sl_law_number sl_law_r sl_law_code_row sl_law_data_row sl_law_size sl_law_fields sl_law_each sl_law : Array (Option Value)} {oc_row_size kV_row_size dc_row_size pm_row_size cd_row_size ct_row_size oc_row_fields kV_row_fields dc_row_fields pm_row_fields cd_row_fields ct_row_fields oc_law_bag kV_law_bag dc_law_bag pm_law_bag cd_law_bag ct_law_bag oc_law_draw kV_law_draw dc_law_draw pm_law_draw cd_law_draw ct_law_draw oc_law_of kV_law_of dc_law_of pm_law_of cd_law_of ct_law_of oc_law_same kV_law_same dc_law_same pm_law_same cd_law_same ct_law_same oc_law_titles kV_law_titles dc_law_titles pm_law_titles cd_law_titles ct_law_titles oc_law_number kV_law_number dc_law_number pm_law_number cd_law_number ct_law_number oc_law_r kV_law_r dc_law_r pm_law_r cd_law_r ct_law_r oc_law_code_row kV_law_code_row dc_law_code_row pm_law_code_row cd_law_code_row ct_law_code_row oc_law_data_row kV_law_data_row dc_law_data_row pm_law_data_row cd_law_data_row ct_law_data_row oc_law_size kV_law_size dc_law_size pm_law_size cd_law_size ct_law_size oc_law_fields kV_law_fields dc_law_fields pm_law_fields cd_law_fields ct_law_fields oc_law_each kV_law_each dc_law_each pm_law_each cd_law_each ct_law_each oc_law kV_law dc_law pm_law cd_law ct_law : Value}
    {t_row_size : Addr} {td_row_size : Option Addr} {ti_row_size : Array Value} {tn_row_size : Nat} {ts_row_size : Array (Option Value)}
    (a_row_size : PySem.W.nsIn K mainGlobals "row_size" = some (some (.ref f_row_size))) (l_row_size : K.lookup f_row_size = some ⟨oc_row_size, od_row_size, .func (PySem.W.fnOf "row_size" "row_size" (defArgs s_row_size) (defBody s_row_size) (defScope s_row_size) (.ref t_row_size) kV_row_size dc_row_size pm_row_size an_row_size cd_row_size ct_row_size), sl_row_size⟩) (c_row_size : PySem.W.codeIn K cd_row_size "row_size" = true) (k_row_size : PySem.W.keepIn K (.ref f_row_size) = true)
    (tl_row_size : K.lookup t_row_size = some ⟨.type "tuple", td_row_size, .seq ti_row_size tn_row_size, ts_row_size⟩) (tv_row_size : Vals [.bl false] ti_row_size.toList)
    {t_row_fields : Addr} {td_row_fields : Option Addr} {ti_row_fields : Array Value} {tn_row_fields : Nat} {ts_row_fields : Array (Option Value)}
    (a_row_fields : PySem.W.nsIn K mainGlobals "row_fields" = some (some (.ref f_row_fields))) (l_row_fields : K.lookup f_row_fields = some ⟨oc_row_fields, od_row_fields, .func (PySem.W.fnOf "row_fields" "row_fields" (defArgs s_row_fields) (defBody s_row_fields) (defScope s_row_fields) (.ref t_row_fields) kV_row_fields dc_row_fields pm_row_fields an_row_fields cd_row_fields ct_row_fields), sl_row_fields⟩) (c_row_fields : PySem.W.codeIn K cd_row_fields "row_fields" = true) (k_row_fields : PySem.W.keepIn K (.ref f_row_fields) = true)
    (tl_row_fields : K.lookup t_row_fields = some ⟨.type "tuple", td_row_fields, .seq ti_row_fields tn_row_fields, ts_row_fields⟩) (tv_row_fields : Vals [.bl false] ti_row_fields.toList)
    (a_law_bag : PySem.W.nsIn K mainGlobals "_law_bag" = some (some (.ref f_law_bag))) (l_law_bag : K.lookup f_law_bag = some ⟨oc_law_bag, od_law_bag, .func (PySem.W.fnOf "_law_bag" "_law_bag" (defArgs s_law_bag) (defBody s_law_bag) (defScope s_law_bag) .none kV_law_bag dc_law_bag pm_law_bag an_law_bag cd_law_bag ct_law_bag), sl_law_bag⟩) (c_law_bag : PySem.W.codeIn K cd_law_bag "_law_bag" = true) (k_law_bag : PySem.W.keepIn K (.ref f_law_bag) = true)
    (a_law_draw : PySem.W.nsIn K mainGlobals "_law_draw" = some (some (.ref f_law_draw))) (l_law_draw : K.lookup f_law_draw = some ⟨oc_law_draw, od_law_draw, .func (PySem.W.fnOf "_law_draw" "_law_draw" (defArgs s_law_draw) (defBody s_law_draw) (defScope s_law_draw) .none kV_law_draw dc_law_draw pm_law_draw an_law_draw cd_law_draw ct_law_draw), sl_law_draw⟩) (c_law_draw : PySem.W.codeIn K cd_law_draw "_law_draw" = true) (k_law_draw : PySem.W.keepIn K (.ref f_law_draw) = true)
    (a_law_of : PySem.W.nsIn K mainGlobals "_law_of" = some (some (.ref f_law_of))) (l_law_of : K.lookup f_law_of = some ⟨oc_law_of, od_law_of, .func (PySem.W.fnOf "_law_of" "_law_of" (defArgs s_law_of) (defBody s_law_of) (defScope s_law_of) .none kV_law_of dc_law_of pm_law_of an_law_of cd_law_of ct_law_of), sl_law_of⟩) (c_law_of : PySem.W.codeIn K cd_law_of "_law_of" = true) (k_law_of : PySem.W.keepIn K (.ref f_law_of) = true)
    (a_law_same : PySem.W.nsIn K mainGlobals "_law_same" = some (some (.ref f_law_same))) (l_law_same : K.lookup f_law_same = some ⟨oc_law_same, od_law_same, .func (PySem.W.fnOf "_law_same" "_law_same" (defArgs s_law_same) (defBody s_law_same) (defScope s_law_same) .none kV_law_same dc_law_same pm_law_same an_law_same cd_law_same ct_law_same), sl_law_same⟩) (c_law_same : PySem.W.codeIn K cd_law_same "_law_same" = true) (k_law_same : PySem.W.keepIn K (.ref f_law_same) = true)
    (a_law_titles : PySem.W.nsIn K mainGlobals "_law_titles" = some (some (.ref f_law_titles))) (l_law_titles : K.lookup f_law_titles = some ⟨oc_law_titles, od_law_titles, .func (PySem.W.fnOf "_law_titles" "_law_titles" (defArgs s_law_titles) (defBody s_law_titles) (defScope s_law_titles) .none kV_law_titles dc_law_titles pm_law_titles an_law_titles cd_law_titles ct_law_titles), sl_law_titles⟩) (c_law_titles : PySem.W.codeIn K cd_law_titles "_law_titles" = true) (k_law_titles : PySem.W.keepIn K (.ref f_law_titles) = true)
    (a_law_number : PySem.W.nsIn K mainGlobals "_law_number" = some (some (.ref f_law_number))) (l_law_number : K.lookup f_law_number = some ⟨oc_law_number, od_law_number, .func (PySem.W.fnOf "_law_number" "_law_number" (defArgs s_law_number) (defBody s_law_number) (defScope s_law_number) .none kV_law_number dc_law_number pm_law_number an_law_number cd_law_number ct_law_number), sl_law_number⟩) (c_law_number : PySem.W.codeIn K cd_law_number "_law_number" = true) (k_law_number : PySem.W.keepIn K (.ref f_law_number) = true)
    (a_law_r : PySem.W.nsIn K mainGlobals "_law_r" = some (some (.ref f_law_r))) (l_law_r : K.lookup f_law_r = some ⟨oc_law_r, od_law_r, .func (PySem.W.fnOf "_law_r" "_law_r" (defArgs s_law_r) (defBody s_law_r) (defScope s_law_r) .none kV_law_r dc_law_r pm_law_r an_law_r cd_law_r ct_law_r), sl_law_r⟩) (c_law_r : PySem.W.codeIn K cd_law_r "_law_r" = true) (k_law_r : PySem.W.keepIn K (.ref f_law_r) = true)
    (a_law_code_row : PySem.W.nsIn K mainGlobals "_law_code_row" = some (some (.ref f_law_code_row))) (l_law_code_row : K.lookup f_law_code_row = some ⟨oc_law_code_row, od_law_code_row, .func (PySem.W.fnOf "_law_code_row" "_law_code_row" (defArgs s_law_code_row) (defBody s_law_code_row) (defScope s_law_code_row) .none kV_law_code_row dc_law_code_row pm_law_code_row an_law_code_row cd_law_code_row ct_law_code_row), sl_law_code_row⟩) (c_law_code_row : PySem.W.codeIn K cd_law_code_row "_law_code_row" = true) (k_law_code_row : PySem.W.keepIn K (.ref f_law_code_row) = true)
    (a_law_data_row : PySem.W.nsIn K mainGlobals "_law_data_row" = some (some (.ref f_law_data_row))) (l_law_data_row : K.lookup f_law_data_row = some ⟨oc_law_data_row, od_law_data_row, .func (PySem.W.fnOf "_law_data_row" "_law_data_row" (defArgs s_law_data_row) (defBody s_law_data_row) (defScope s_law_data_row) .none kV_law_data_row dc_law_data_row pm_law_data_row an_law_data_row cd_law_data_row ct_law_data_row), sl_law_data_row⟩) (c_law_data_row : PySem.W.codeIn K cd_law_data_row "_law_data_row" = true) (k_law_data_row : PySem.W.keepIn K (.ref f_law_data_row) = true)
    (a_law_size : PySem.W.nsIn K mainGlobals "_law_size" = some (some (.ref f_law_size))) (l_law_size : K.lookup f_law_size = some ⟨oc_law_size, od_law_size, .func (PySem.W.fnOf "_law_size" "_law_size" (defArgs s_law_size) (defBody s_law_size) (defScope s_law_size) .none kV_law_size dc_law_size pm_law_size an_law_size cd_law_size ct_law_size), sl_law_size⟩) (c_law_size : PySem.W.codeIn K cd_law_size "_law_size" = true) (k_law_size : PySem.W.keepIn K (.ref f_law_size) = true)
    (a_law_fields : PySem.W.nsIn K mainGlobals "_law_fields" = some (some (.ref f_law_fields))) (l_law_fields : K.lookup f_law_fields = some ⟨oc_law_fields, od_law_fields, .func (PySem.W.fnOf "_law_fields" "_law_fields" (defArgs s_law_fields) (defBody s_law_fields) (defScope s_law_fields) .none kV_law_fields dc_law_fields pm_law_fields an_law_fields cd_law_fields ct_law_fields), sl_law_fields⟩) (c_law_fields : PySem.W.codeIn K cd_law_fields "_law_fields" = true) (k_law_fields : PySem.W.keepIn K (.ref f_law_fields) = true)
    (a_law_each : PySem.W.nsIn K mainGlobals "_law_each" = some (some (.ref f_law_each))) (l_law_each : K.lookup f_law_each = some ⟨oc_law_each, od_law_each, .func (PySem.W.fnOf "_law_each" "_law_each" (defArgs s_law_each) (defBody s_law_each) (defScope s_law_each) .none kV_law_each dc_law_each pm_law_each an_law_each cd_law_each ct_law_each), sl_law_each⟩) (c_law_each : PySem.W.codeIn K cd_law_each "_law_each" = true) (k_law_each : PySem.W.keepIn K (.ref f_law_each) = true)
    (a_law : PySem.W.nsIn K mainGlobals "law" = some (some (.ref f_law))) (l_law : K.lookup f_law = some ⟨oc_law, od_law, .func (PySem.W.fnOf "law" "law" (defArgs s_law) (defBody s_law) (defScope s_law) .none kV_law dc_law pm_law an_law cd_law ct_law), sl_law⟩) (c_law : PySem.W.codeIn K cd_law "law" = true) (k_law : PySem.W.keepIn K (.ref f_law) = true)
    (n_abs : PySem.W.nsIn K mainGlobals "abs" = some none)
    (n_all : PySem.W.nsIn K mainGlobals "all" = some none)
    (n_bool : PySem.W.nsIn K mainGlobals "bool" = some none)
    (n_int : PySem.W.nsIn K mainGlobals "int" = some none)
    (n_isinstance : PySem.W.nsIn K mainGlobals "isinstance" = some none)
    (n_len : PySem.W.nsIn K mainGlobals "len" = some none)
    (n_list : PySem.W.nsIn K mainGlobals "list" = some none)
    (n_range : PySem.W.nsIn K mainGlobals "range" = some none)
    (n_str : PySem.W.nsIn K mainGlobals "str" = some none)
    (n_tuple : PySem.W.nsIn K mainGlobals "tuple" = some none)
    (n_zip : PySem.W.nsIn K mainGlobals "zip" = some none)
    {tk_STUB : Tok} (g_STUB : PySem.W.nsIn K mainGlobals "STUB" = some (some (.int 4 tk_STUB)))
    (g_HIGH_CELLS : PySem.W.nsIn K mainGlobals "HIGH_CELLS" = some (some (.ref q_HIGH_CELLS)))
    (g_LONG_SIZES : PySem.W.nsIn K mainGlobals "LONG_SIZES" = some (some (.ref q_LONG_SIZES)))
    {qe_HIGH_CELLS : Array DictEntry} {qz_HIGH_CELLS : Nat} (dl_HIGH_CELLS : K.lookup q_HIGH_CELLS = some ⟨.type "dict", none, .dict qe_HIGH_CELLS qz_HIGH_CELLS, #[]⟩) (dk_HIGH_CELLS : PySem.W.KeysLit w.params qe_HIGH_CELLS.toList) (dw_HIGH_CELLS : (q_HIGH_CELLS == sysModules) = false)
    {tk_HIGH_CELLS_name : Tok}
    {tk_HIGH_CELLS_jump : Tok}
    {tk_HIGH_CELLS_ifzero : Tok}
    {tk_HIGH_CELLS_call : Tok}
    (pe_HIGH_CELLS : Paired (fun (d : DictEntry) (p : Str × Value) => (∃ t, d.key = .str p.1 t) ∧ d.val = p.2) qe_HIGH_CELLS.toList [("name", Value.int 0 tk_HIGH_CELLS_name), ("jump", Value.int 0 tk_HIGH_CELLS_jump), ("ifzero", Value.int 2 tk_HIGH_CELLS_ifzero), ("call", Value.int 0 tk_HIGH_CELLS_call)])
    {qe_LONG_SIZES : Array DictEntry} {qz_LONG_SIZES : Nat} (dl_LONG_SIZES : K.lookup q_LONG_SIZES = some ⟨.type "dict", none, .dict qe_LONG_SIZES qz_LONG_SIZES, #[]⟩) (dk_LONG_SIZES : PySem.W.KeysLit w.params qe_LONG_SIZES.toList) (dw_LONG_SIZES : (q_LONG_SIZES == sysModules) = false)
    {tk_LONG_SIZES_name : Tok}
    {tk_LONG_SIZES_jump : Tok}
    {tk_LONG_SIZES_ifzero : Tok}
    {tk_LONG_SIZES_call : Tok}
    (pe_LONG_SIZES : Paired (fun (d : DictEntry) (p : Str × Value) => (∃ t, d.key = .str p.1 t) ∧ d.val = p.2) qe_LONG_SIZES.toList [("name", Value.int 2 tk_LONG_SIZES_name), ("jump", Value.int 3 tk_LONG_SIZES_jump), ("ifzero", Value.int 5 tk_LONG_SIZES_ifzero), ("call", Value.int 3 tk_LONG_SIZES_call)])
    : ∃ fd : FuncData, (∀ (s : Shared) (v : Value), BindsTo s fd ⟨[v], []⟩ [("_law_script", v)]) ∧ ∀ base : Heap, K.In base → base.Ns mainGlobals mg → FnOk l.prog w K mg base CX0 6 fa fd ["_law_script"] (sp_law K) := by
  have e := hfa.symm.trans (PySem.W.mg_of X G a_law)
  cases e
  have F_row_size : FunD K "row_size" "row_size" (defArgs s_row_size) (defBody s_row_size) (defScope s_row_size) [.bl false] [] f_row_size _ := ⟨⟨_, _, _, _, _, _, _, _, _, _, rfl, l_row_size, c_row_size, .inr ⟨(fun z => nomatch z), t_row_size, _, ti_row_size.toList, tn_row_size, rfl, tl_row_size, (by simp), tv_row_size⟩, .inl rfl⟩, k_row_size⟩
  have F_row_fields : FunD K "row_fields" "row_fields" (defArgs s_row_fields) (defBody s_row_fields) (defScope s_row_fields) [.bl false] [] f_row_fields _ := ⟨⟨_, _, _, _, _, _, _, _, _, _, rfl, l_row_fields, c_row_fields, .inr ⟨(fun z => nomatch z), t_row_fields, _, ti_row_fields.toList, tn_row_fields, rfl, tl_row_fields, (by simp), tv_row_fields⟩, .inl rfl⟩, k_row_fields⟩
  have F_law_bag := fun_mk (st := s_law_bag) l_law_bag c_law_bag k_law_bag
  have F_law_draw := fun_mk (st := s_law_draw) l_law_draw c_law_draw k_law_draw
  have F_law_of := fun_mk (st := s_law_of) l_law_of c_law_of k_law_of
  have F_law_same := fun_mk (st := s_law_same) l_law_same c_law_same k_law_same
  have F_law_titles := fun_mk (st := s_law_titles) l_law_titles c_law_titles k_law_titles
  have F_law_number := fun_mk (st := s_law_number) l_law_number c_law_number k_law_number
  have F_law_r := fun_mk (st := s_law_r) l_law_r c_law_r k_law_r
  have F_law_code_row := fun_mk (st := s_law_code_row) l_law_code_row c_law_code_row k_law_code_row
  have F_law_data_row := fun_mk (st := s_law_data_row) l_law_data_row c_law_data_row k_law_data_row
  have F_law_size := fun_mk (st := s_law_size) l_law_size c_law_size k_law_size
  have F_law_fields := fun_mk (st := s_law_fields) l_law_fields c_law_fields k_law_fields
  have F_law_each := fun_mk (st := s_law_each) l_law_each c_law_each k_law_each
  have F_law := fun_mk (st := s_law) l_law c_law k_law
  let Z : Fs := ⟨f_row_size, PySem.W.fnOf "row_size" "row_size" (defArgs s_row_size) (defBody s_row_size) (defScope s_row_size) (.ref t_row_size) kV_row_size dc_row_size pm_row_size an_row_size cd_row_size ct_row_size, f_row_fields, PySem.W.fnOf "row_fields" "row_fields" (defArgs s_row_fields) (defBody s_row_fields) (defScope s_row_fields) (.ref t_row_fields) kV_row_fields dc_row_fields pm_row_fields an_row_fields cd_row_fields ct_row_fields, f_law_bag, PySem.W.fnOf "_law_bag" "_law_bag" (defArgs s_law_bag) (defBody s_law_bag) (defScope s_law_bag) .none kV_law_bag dc_law_bag pm_law_bag an_law_bag cd_law_bag ct_law_bag, f_law_draw, PySem.W.fnOf "_law_draw" "_law_draw" (defArgs s_law_draw) (defBody s_law_draw) (defScope s_law_draw) .none kV_law_draw dc_law_draw pm_law_draw an_law_draw cd_law_draw ct_law_draw, f_law_of, PySem.W.fnOf "_law_of" "_law_of" (defArgs s_law_of) (defBody s_law_of) (defScope s_law_of) .none kV_law_of dc_law_of pm_law_of an_law_of cd_law_of ct_law_of, f_law_same, PySem.W.fnOf "_law_same" "_law_same" (defArgs s_law_same) (defBody s_law_same) (defScope s_law_same) .none kV_law_same dc_law_same pm_law_same an_law_same cd_law_same ct_law_same, f_law_titles, PySem.W.fnOf "_law_titles" "_law_titles" (defArgs s_law_titles) (defBody s_law_titles) (defScope s_law_titles) .none kV_law_titles dc_law_titles pm_law_titles an_law_titles cd_law_titles ct_law_titles, f_law_number, PySem.W.fnOf "_law_number" "_law_number" (defArgs s_law_number) (defBody s_law_number) (defScope s_law_number) .none kV_law_number dc_law_number pm_law_number an_law_number cd_law_number ct_law_number, f_law_r, PySem.W.fnOf "_law_r" "_law_r" (defArgs s_law_r) (defBody s_law_r) (defScope s_law_r) .none kV_law_r dc_law_r pm_law_r an_law_r cd_law_r ct_law_r, f_law_code_row, PySem.W.fnOf "_law_code_row" "_law_code_row" (defArgs s_law_code_row) (defBody s_law_code_row) (defScope s_law_code_row) .none kV_law_code_row dc_law_code_row pm_law_code_row an_law_code_row cd_law_code_row ct_law_code_row, f_law_data_row, PySem.W.fnOf "_law_data_row" "_law_data_row" (defArgs s_law_data_row) (defBody s_law_data_row) (defScope s_law_data_row) .none kV_law_data_row dc_law_data_row pm_law_data_row an_law_data_row cd_law_data_row ct_law_data_row, f_law_size, PySem.W.fnOf "_law_size" "_law_size" (defArgs s_law_size) (defBody s_law_size) (defScope s_law_size) .none kV_law_size dc_law_size pm_law_size an_law_size cd_law_size ct_law_size, f_law_fields, PySem.W.fnOf "_law_fields" "_law_fields" (defArgs s_law_fields) (defBody s_law_fields) (defScope s_law_fields) .none kV_law_fields dc_law_fields pm_law_fields an_law_fields cd_law_fields ct_law_fields, f_law_each, PySem.W.fnOf "_law_each" "_law_each" (defArgs s_law_each) (defBody s_law_each) (defScope s_law_each) .none kV_law_each dc_law_each pm_law_each an_law_each cd_law_each ct_law_each, fa, PySem.W.fnOf "law" "law" (defArgs s_law) (defBody s_law) (defScope s_law) .none kV_law dc_law pm_law an_law cd_law ct_law, qe_HIGH_CELLS, qz_HIGH_CELLS, qe_LONG_SIZES, qz_LONG_SIZES, q_HIGH_CELLS, q_LONG_SIZES⟩
  have T : Txt K w mg Z := ⟨F_row_size,
    PySem.W.mg_of X G a_row_size,
    kbn_d_row_size_1 F_row_size,
    kbn_d_row_size_0_long_row F_row_size,
    kbn_d_row_size_2 F_row_size,
    F_row_fields,
    PySem.W.mg_of X G a_row_fields,
    kbn_d_row_fields_1 F_row_fields,
    kbn_d_row_fields_2 F_row_fields,
    kbn_d_row_fields_0_row_long F_row_fields,
    F_law_bag,
    PySem.W.mg_of X G a_law_bag,
    F_law_bag.binds (ps := ["_law_script"]) fun _ _ _ _ _ _ us hl => match us, hl with | [_], _ => rfl,
    F_law_draw,
    PySem.W.mg_of X G a_law_draw,
    F_law_draw.binds (ps := ["_law_bag_here", "_law_sides"]) fun _ _ _ _ _ _ us hl => match us, hl with | [_, _], _ => rfl,
    F_law_of,
    PySem.W.mg_of X G a_law_of,
    F_law_of.binds (ps := ["_law_bag_here", "_law_things"]) fun _ _ _ _ _ _ us hl => match us, hl with | [_, _], _ => rfl,
    F_law_same,
    PySem.W.mg_of X G a_law_same,
    F_law_same.binds (ps := ["_law_found", "_law_due"]) fun _ _ _ _ _ _ us hl => match us, hl with | [_, _], _ => rfl,
    F_law_titles,
    PySem.W.mg_of X G a_law_titles,
    F_law_titles.binds (ps := ["_law_bag_here", "_law_many"]) fun _ _ _ _ _ _ us hl => match us, hl with | [_, _], _ => rfl,
    F_law_number,
    PySem.W.mg_of X G a_law_number,
    F_law_number.binds (ps := ["_law_bag_here"]) fun _ _ _ _ _ _ us hl => match us, hl with | [_], _ => rfl,
    F_law_r,
    PySem.W.mg_of X G a_law_r,
    F_law_r.binds (ps := ["_law_bag_here"]) fun _ _ _ _ _ _ us hl => match us, hl with | [_], _ => rfl,
    F_law_code_row,
    PySem.W.mg_of X G a_law_code_row,
    F_law_code_row.binds (ps := ["_law_bag_here", "_law_titles_here"]) fun _ _ _ _ _ _ us hl => match us, hl with | [_, _], _ => rfl,
    F_law_data_row,
    PySem.W.mg_of X G a_law_data_row,
    F_law_data_row.binds (ps := ["_law_bag_here", "_law_titles_here"]) fun _ _ _ _ _ _ us hl => match us, hl with | [_, _], _ => rfl,
    F_law_size,
    PySem.W.mg_of X G a_law_size,
    F_law_size.binds (ps := ["_law_one", "_law_far"]) fun _ _ _ _ _ _ us hl => match us, hl with | [_, _], _ => rfl,
    F_law_fields,
    PySem.W.mg_of X G a_law_fields,
    F_law_fields.binds (ps := ["_law_one", "_law_far"]) fun _ _ _ _ _ _ us hl => match us, hl with | [_, _], _ => rfl,
    F_law_each,
    PySem.W.mg_of X G a_law_each,
    F_law_each.binds (ps := ["_law_bag_here", "_law_titles_here"]) fun _ _ _ _ _ _ us hl => match us, hl with | [_, _], _ => rfl,
    F_law,
    PySem.W.mg_of X G a_law,
    F_law.binds (ps := ["_law_script"]) fun _ _ _ _ _ _ us hl => match us, hl with | [_], _ => rfl,
    PySem.W.mg_none_of X G n_abs,
    PySem.W.mg_none_of X G n_all,
    PySem.W.mg_none_of X G n_bool,
    PySem.W.mg_none_of X G n_int,
    PySem.W.mg_none_of X G n_isinstance,
    PySem.W.mg_none_of X G n_len,
    PySem.W.mg_none_of X G n_list,
    PySem.W.mg_none_of X G n_range,
    PySem.W.mg_none_of X G n_str,
    PySem.W.mg_none_of X G n_tuple,
    PySem.W.mg_none_of X G n_zip,
    ⟨_, PySem.W.mg_of X G g_STUB⟩,
    PySem.W.mg_of X G g_HIGH_CELLS,
    PySem.W.mg_of X G g_LONG_SIZES,
    ⟨dl_HIGH_CELLS, dk_HIGH_CELLS, dw_HIGH_CELLS⟩,
    fun z => ⟨_, nsIn_of dl_HIGH_CELLS pe_HIGH_CELLS z, find_rel (show Paired (fun (p : Str × V) (q : Str × Value) => p.1 = q.1 ∧ RelV p.2 q.2) tb_HIGH_CELLS [("name", Value.int 0 tk_HIGH_CELLS_name), ("jump", Value.int 0 tk_HIGH_CELLS_jump), ("ifzero", Value.int 2 tk_HIGH_CELLS_ifzero), ("call", Value.int 0 tk_HIGH_CELLS_call)] from (.cons ⟨rfl, ⟨_, rfl⟩⟩ (.cons ⟨rfl, ⟨_, rfl⟩⟩ (.cons ⟨rfl, ⟨_, rfl⟩⟩ (.cons ⟨rfl, ⟨_, rfl⟩⟩ .nil))))) z⟩,
    ⟨dl_LONG_SIZES, dk_LONG_SIZES, dw_LONG_SIZES⟩,
    fun z => ⟨_, nsIn_of dl_LONG_SIZES pe_LONG_SIZES z, find_rel (show Paired (fun (p : Str × V) (q : Str × Value) => p.1 = q.1 ∧ RelV p.2 q.2) tb_LONG_SIZES [("name", Value.int 2 tk_LONG_SIZES_name), ("jump", Value.int 3 tk_LONG_SIZES_jump), ("ifzero", Value.int 5 tk_LONG_SIZES_ifzero), ("call", Value.int 3 tk_LONG_SIZES_call)] from (.cons ⟨rfl, ⟨_, rfl⟩⟩ (.cons ⟨rfl, ⟨_, rfl⟩⟩ (.cons ⟨rfl, ⟨_, rfl⟩⟩ (.cons ⟨rfl, ⟨_, rfl⟩⟩ .nil))))) z⟩⟩
  exact ⟨Z.d_law, fun s v => .of_eq rfl, fun base _ _ => ok_law T⟩
end Kk
open PySem PySem.W PyProof.Rows
set_option maxRecDepth 100000 in
set_option maxHeartbeats 0 in
theorem PySem.Challenge.cw_leastimage_k13_sizes_and_fields_holds : PySem.Challenge.rw_leastimage_k13_sizes_and_fields.Holds := by
  w_on; o_law; k_head; (case hw => w_witness2)
  k_fill
  refine L2.walk_of (l := PySem.Challenge.rw_leastimage_k13_sizes_and_fields) (n := 63) (k := 6) (x := "_law_script") (CX := fun _ => L2.CX0) (sp := fun w => Kk.sp_law _) rfl (by decide) rfl ⟨rfl, by decide, by decide⟩ (fun w h Y => PySem.W.kIn_of Y) ?F (fun _ _ a ns hl _ hS => ⟨a, ns, rfl, hS, hl, fun _ => rfl⟩) (fun _ _ _ _ _ h => h)
  case F =>
    intro w mg fa h KX G hmg
    refine' Kk.all_mk KX G hmg ?a_row_size ?l_row_size ?c_row_size ?k_row_size ?tl_row_size ?tv_row_size ?a_row_fields ?l_row_fields ?c_row_fields ?k_row_fields ?tl_row_fields ?tv_row_fields ?a_law_bag ?l_law_bag ?c_law_bag ?k_law_bag ?a_law_draw ?l_law_draw ?c_law_draw ?k_law_draw ?a_law_of ?l_law_of ?c_law_of ?k_law_of ?a_law_same ?l_law_same ?c_law_same ?k_law_same ?a_law_titles ?l_law_titles ?c_law_titles ?k_law_titles ?a_law_number ?l_law_number ?c_law_number ?k_law_number ?a_law_r ?l_law_r ?c_law_r ?k_law_r ?a_law_code_row ?l_law_code_row ?c_law_code_row ?k_law_code_row ?a_law_data_row ?l_law_data_row ?c_law_data_row ?k_law_data_row ?a_law_size ?l_law_size ?c_law_size ?k_law_size ?a_law_fields ?l_law_fields ?c_law_fields ?k_law_fields ?a_law_each ?l_law_each ?c_law_each ?k_law_each ?a_law ?l_law ?c_law ?k_law ?n_abs ?n_all ?n_bool ?n_int ?n_isinstance ?n_len ?n_list ?n_range ?n_str ?n_tuple ?n_zip ?g_STUB ?g_HIGH_CELLS ?g_LONG_SIZES ?dl_HIGH_CELLS ?dk_HIGH_CELLS ?dw_HIGH_CELLS ?pe_HIGH_CELLS ?dl_LONG_SIZES ?dk_LONG_SIZES ?dw_LONG_SIZES ?pe_LONG_SIZES
    (case a_row_size => k_is)
    (case l_row_size => k_is)
    (case c_row_size => k_is)
    (case k_row_size => k_is)
    (case tl_row_size => k_is)
    (case tv_row_size => exact (.cons rfl .nil))
    (case a_row_fields => k_is)
    (case l_row_fields => k_is)
    (case c_row_fields => k_is)
    (case k_row_fields => k_is)
    (case tl_row_fields => k_is)
    (case tv_row_fields => exact (.cons rfl .nil))
    (case a_law_bag => k_is)
    (case l_law_bag => k_is)
    (case c_law_bag => k_is)
    (case k_law_bag => k_is)
    (case a_law_draw => k_is)
    (case l_law_draw => k_is)
    (case c_law_draw => k_is)
    (case k_law_draw => k_is)
    (case a_law_of => k_is)
    (case l_law_of => k_is)
    (case c_law_of => k_is)
    (case k_law_of => k_is)
    (case a_law_same => k_is)
    (case l_law_same => k_is)
    (case c_law_same => k_is)
    (case k_law_same => k_is)
    (case a_law_titles => k_is)
    (case l_law_titles => k_is)
    (case c_law_titles => k_is)
    (case k_law_titles => k_is)
    (case a_law_number => k_is)
    (case l_law_number => k_is)
    (case c_law_number => k_is)
    (case k_law_number => k_is)
    (case a_law_r => k_is)
    (case l_law_r => k_is)
    (case c_law_r => k_is)
    (case k_law_r => k_is)
    (case a_law_code_row => k_is)
    (case l_law_code_row => k_is)
    (case c_law_code_row => k_is)
    (case k_law_code_row => k_is)
    (case a_law_data_row => k_is)
    (case l_law_data_row => k_is)
    (case c_law_data_row => k_is)
    (case k_law_data_row => k_is)
    (case a_law_size => k_is)
    (case l_law_size => k_is)
    (case c_law_size => k_is)
    (case k_law_size => k_is)
    (case a_law_fields => k_is)
    (case l_law_fields => k_is)
    (case c_law_fields => k_is)
    (case k_law_fields => k_is)
    (case a_law_each => k_is)
    (case l_law_each => k_is)
    (case c_law_each => k_is)
    (case k_law_each => k_is)
    (case a_law => k_is)
    (case l_law => k_is)
    (case c_law => k_is)
    (case k_law => k_is)
    (case n_abs => k_is)
    (case n_all => k_is)
    (case n_bool => k_is)
    (case n_int => k_is)
    (case n_isinstance => k_is)
    (case n_len => k_is)
    (case n_list => k_is)
    (case n_range => k_is)
    (case n_str => k_is)
    (case n_tuple => k_is)
    (case n_zip => k_is)
    (case g_STUB => k_is)
    (case g_HIGH_CELLS => k_is)
    (case g_LONG_SIZES => k_is)
    (case dl_HIGH_CELLS => k_is)
    (case dk_HIGH_CELLS => repeat (first | exact trivial | refine ⟨⟨_, _, rfl, rfl⟩, ?_⟩))
    (case dw_HIGH_CELLS => first | rfl | decide +kernel)
    (case pe_HIGH_CELLS => exact (.cons ⟨⟨_, rfl⟩, rfl⟩ (.cons ⟨⟨_, rfl⟩, rfl⟩ (.cons ⟨⟨_, rfl⟩, rfl⟩ (.cons ⟨⟨_, rfl⟩, rfl⟩ .nil)))))
    (case dl_LONG_SIZES => k_is)
    (case dk_LONG_SIZES => repeat (first | exact trivial | refine ⟨⟨_, _, rfl, rfl⟩, ?_⟩))
    (case dw_LONG_SIZES => first | rfl | decide +kernel)
    (case pe_LONG_SIZES => exact (.cons ⟨⟨_, rfl⟩, rfl⟩ (.cons ⟨⟨_, rfl⟩, rfl⟩ (.cons ⟨⟨_, rfl⟩, rfl⟩ (.cons ⟨⟨_, rfl⟩, rfl⟩ .nil)))))

