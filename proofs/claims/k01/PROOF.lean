import PyProof.Rows.All
import Wide.All
import OpenK.AllK
import Wide.FinOn
import HandS.ForMost
import HandS.Walk
import HandS.IsInst
import HandS.Zip
import HandS.Style
import HandS.Codes
import HandS.Defaults
import HandS.Evl
import HandS.More
import HandS.Strs
import HandS.FStr
import HandS.MakeKw
import HandS.MakeKwOnly
import HandS.OwnEq
import HandS.Property
import HandS.Star
import HandS.RaiseMore
import HandS.StrMore
import HandS.Text
import KE.GoesEnum
import KE.GoesMore
import KE.RegKIsAll
import KE.IntTextText
import KE.KIntText
import KE.OsScanText
import PySem.Challenge.RW_leastimage_k01_words_and_numbers_judged
set_option Elab.async false
set_option maxRecDepth 100000
set_option maxHeartbeats 4000000
set_option linter.all false
namespace Kk
open PySem L2 PyProof.Rows
/-! ### the text by places, what the top has written -/
/-- a table of the text: the first entry of a word -/
def findT {α : Type} (l : List (Str × α)) (z : Str) : Option α := (l.find? fun p => decide (p.1 = z)).map (·.2)
def RelOpt {α : Type} (R : α → Value → Prop) : Option α → Option Value → Prop
  | some x, some u => R x u
  | none, none => True
  | _, _ => False
def RelTu (K : PySem.W.Frag) (xs : List V) (u : Value) : Prop := ∃ t, u = .ref t ∧ ∀ H : Hp, SqT K H t xs
theorem find_rel {α : Type} {R : α → Value → Prop} : ∀ {l : List (Str × α)} {m : List (Str × Value)}, Paired (fun (p : Str × α) (q : Str × Value) => p.1 = q.1 ∧ R p.2 q.2) l m → ∀ z, RelOpt R (findT l z) (findT m z)
  | _, _, .nil, _ => trivial
  | p :: l, q :: m, .cons r t, z => by
    unfold findT
    rw [List.find?_cons, List.find?_cons, ← r.1]
    cases decide (p.1 = z) with
    | true => exact r.2
    | false => exact find_rel t z
theorem nsIn_of {K : PySem.W.Frag} {c : Addr} {ty : Value} {dd : Option Addr} {es : Array DictEntry} {n : Nat} {sl : Array (Option Value)} (h : K.lookup c = some ⟨ty, dd, .dict es n, sl⟩) {L : List (Str × Value)}
    (e : Paired (fun (d : DictEntry) (p : Str × Value) => (∃ t, d.key = .str p.1 t) ∧ d.val = p.2) es.toList L) (z : Str) : PySem.W.nsIn K c z = some (findT L z) := by
  unfold PySem.W.nsIn
  rw [h]
  dsimp only
  have k : ∀ (l : List DictEntry) (L : List (Str × Value)), Paired (fun (d : DictEntry) (p : Str × Value) => (∃ t, d.key = .str p.1 t) ∧ d.val = p.2) l L → (l.find? (·.key.isStr z)).map (·.val) = findT L z ∧ l.any (·.refKey) = false := by
    intro l L e
    induction e with
    | nil => exact ⟨rfl, rfl⟩
    | @cons d p l L r _ ih =>
      obtain ⟨⟨t, hk⟩, hv⟩ := r
      have e1 : d.key.isStr z = decide (p.1 = z) := by
        rw [hk]
        show (p.1 == z) = decide (p.1 = z)
        rw [Bool.eq_iff_iff]
        simp
      have e2 : d.refKey = false := by
        unfold DictEntry.refKey
        rw [hk]
      refine ⟨?_, by rw [List.any_cons, e2, ih.2]; rfl⟩
      unfold findT at ih ⊢
      rw [List.find?_cons, List.find?_cons, e1]
      cases decide (p.1 = z) with
      | true => exact congrArg some hv
      | false => exact ih.1
  obtain ⟨k1, k2⟩ := k _ _ e
  cases q : es.toList.find? (·.key.isStr z) with
  | some d =>
    rw [q] at k1
    rw [← k1]
    rfl
  | none =>
    rw [q] at k1
    rw [← k1]
    simp [k2]
def top (i : Nat) : Stmt := PySem.Challenge.pw_leastimage_k01_words_and_numbers_judged.main.body.getD i (.Pass ⟨0, 0, 0, 0⟩)
abbrev s_is_name : Stmt := top 4
abbrev N_is_name : List Str := ["value", "letter"]
theorem sc_is_name : FnScope N_is_name ["value"] (defScope s_is_name) := ⟨rfl, rfl, rfl, by decide +kernel, rfl, by decide +kernel, by decide +kernel⟩
abbrev s_is_register : Stmt := top 5
abbrev N_is_register : List Str := ["value"]
theorem sc_is_register : FnScope N_is_register ["value"] (defScope s_is_register) := ⟨rfl, rfl, rfl, by decide +kernel, rfl, by decide +kernel, by decide +kernel⟩
abbrev s_is_word : Stmt := top 6
abbrev N_is_word : List Str := ["value"]
theorem sc_is_word : FnScope N_is_word ["value"] (defScope s_is_word) := ⟨rfl, rfl, rfl, by decide +kernel, rfl, by decide +kernel, by decide +kernel⟩
abbrev s_is_number : Stmt := top 7
abbrev N_is_number : List Str := ["value", "least", "most"]
theorem sc_is_number : FnScope N_is_number ["value", "least", "most"] (defScope s_is_number) := ⟨rfl, rfl, rfl, by decide +kernel, rfl, by decide +kernel, by decide +kernel⟩
abbrev s_law_bag : Stmt := top 9
abbrev N_law_bag : List Str := ["_law_script", "_law_mixed", "_law_piled"]
theorem sc_law_bag : FnScope N_law_bag ["_law_script"] (defScope s_law_bag) := ⟨rfl, rfl, rfl, by decide +kernel, rfl, by decide +kernel, by decide +kernel⟩
abbrev s_law_draw : Stmt := top 10
abbrev N_law_draw : List Str := ["_law_bag_here", "_law_sides", "_law_piled", "_law_digit", "_law_seed"]
theorem sc_law_draw : FnScope N_law_draw ["_law_bag_here", "_law_sides"] (defScope s_law_draw) := ⟨rfl, rfl, rfl, by decide +kernel, rfl, by decide +kernel, by decide +kernel⟩
abbrev s_law_of : Stmt := top 11
abbrev N_law_of : List Str := ["_law_bag_here", "_law_things"]
theorem sc_law_of : FnScope N_law_of ["_law_bag_here", "_law_things"] (defScope s_law_of) := ⟨rfl, rfl, rfl, by decide +kernel, rfl, by decide +kernel, by decide +kernel⟩
abbrev s_law_same : Stmt := top 12
abbrev N_law_same : List Str := ["_law_found", "_law_due", "_law_a", "_law_b"]
theorem sc_law_same : FnScope N_law_same ["_law_found", "_law_due"] (defScope s_law_same) := ⟨rfl, rfl, rfl, by decide +kernel, rfl, by decide +kernel, by decide +kernel⟩
abbrev s_law_odd : Stmt := top 13
abbrev N_law_odd : List Str := ["_law_bag_here", "_law_more"]
theorem sc_law_odd : FnScope N_law_odd ["_law_bag_here", "_law_more"] (defScope s_law_odd) := ⟨rfl, rfl, rfl, by decide +kernel, rfl, by decide +kernel, by decide +kernel⟩
abbrev s_law_is_title : Stmt := top 14
abbrev N_law_is_title : List Str := ["_law_thing", "_law_sign"]
theorem sc_law_is_title : FnScope N_law_is_title ["_law_thing"] (defScope s_law_is_title) := ⟨rfl, rfl, rfl, by decide +kernel, rfl, by decide +kernel, by decide +kernel⟩
abbrev s_law_within : Stmt := top 15
abbrev N_law_within : List Str := ["_law_thing", "_law_low_y", "_law_high_y"]
theorem sc_law_within : FnScope N_law_within ["_law_thing", "_law_low_y", "_law_high_y"] (defScope s_law_within) := ⟨rfl, rfl, rfl, by decide +kernel, rfl, by decide +kernel, by decide +kernel⟩
abbrev s_law : Stmt := top 16
abbrev N_law : List Str := ["_law_script", "_law_bag_here", "_law_turn", "_law_wild", "_law_k", "_law_plain", "_law_near", "_law_edge", "_law_thing", "_law_named", "_law_kept", "_law_word_y", "_law_found", "_law_low_y", "_law_high_y", "_law_due", "_law_bounds"]
theorem sc_law : FnScope N_law ["_law_script"] (defScope s_law) := ⟨rfl, rfl, rfl, by decide +kernel, rfl, by decide +kernel, by decide +kernel⟩
structure Fs where
  (a_is_name : Addr) (d_is_name : FuncData)
  (a_is_register : Addr) (d_is_register : FuncData)
  (a_is_word : Addr) (d_is_word : FuncData)
  (a_is_number : Addr) (d_is_number : FuncData)
  (a_law_bag : Addr) (d_law_bag : FuncData)
  (a_law_draw : Addr) (d_law_draw : FuncData)
  (a_law_of : Addr) (d_law_of : FuncData)
  (a_law_same : Addr) (d_law_same : FuncData)
  (a_law_odd : Addr) (d_law_odd : FuncData)
  (a_law_is_title : Addr) (d_law_is_title : FuncData)
  (a_law_within : Addr) (d_law_within : FuncData)
  (a_law : Addr) (d_law : FuncData)
  (c_REGISTERS : Addr)
structure Txt (K : PySem.W.Frag) (w : World) (mg : Str → Option Value) (Z : Fs) : Prop where
  F_is_name : Fun K "is_name" "is_name" s_is_name Z.a_is_name Z.d_is_name
  m_is_name : mg "is_name" = some (.ref Z.a_is_name)
  b_is_name : Binds K Z.d_is_name ["value"] []
  k_is_name_0_value : KBn K Z.d_is_name ["value"] 0 ["value"] (fun us ws => [(us ++ ws).getD 0 .none]) (fun us ws => [(us ++ ws).getD 0 .non])
  F_is_register : Fun K "is_register" "is_register" s_is_register Z.a_is_register Z.d_is_register
  m_is_register : mg "is_register" = some (.ref Z.a_is_register)
  b_is_register : Binds K Z.d_is_register ["value"] []
  k_is_register_0_value : KBn K Z.d_is_register ["value"] 0 ["value"] (fun us ws => [(us ++ ws).getD 0 .none]) (fun us ws => [(us ++ ws).getD 0 .non])
  F_is_word : Fun K "is_word" "is_word" s_is_word Z.a_is_word Z.d_is_word
  m_is_word : mg "is_word" = some (.ref Z.a_is_word)
  b_is_word : Binds K Z.d_is_word ["value"] []
  k_is_word_0_value : KBn K Z.d_is_word ["value"] 0 ["value"] (fun us ws => [(us ++ ws).getD 0 .none]) (fun us ws => [(us ++ ws).getD 0 .non])
  F_is_number : Fun K "is_number" "is_number" s_is_number Z.a_is_number Z.d_is_number
  m_is_number : mg "is_number" = some (.ref Z.a_is_number)
  b_is_number : Binds K Z.d_is_number ["value", "least", "most"] []
  k_is_number_0_most_least_value : KBn K Z.d_is_number ["value", "least", "most"] 0 ["most", "least", "value"] (fun us ws => [(us ++ ws).getD 2 .none, (us ++ ws).getD 1 .none, (us ++ ws).getD 0 .none]) (fun us ws => [(us ++ ws).getD 2 .non, (us ++ ws).getD 1 .non, (us ++ ws).getD 0 .non])
  F_law_bag : Fun K "_law_bag" "_law_bag" s_law_bag Z.a_law_bag Z.d_law_bag
  m_law_bag : mg "_law_bag" = some (.ref Z.a_law_bag)
  b_law_bag : Binds K Z.d_law_bag ["_law_script"] []
  F_law_draw : Fun K "_law_draw" "_law_draw" s_law_draw Z.a_law_draw Z.d_law_draw
  m_law_draw : mg "_law_draw" = some (.ref Z.a_law_draw)
  b_law_draw : Binds K Z.d_law_draw ["_law_bag_here", "_law_sides"] []
  F_law_of : Fun K "_law_of" "_law_of" s_law_of Z.a_law_of Z.d_law_of
  m_law_of : mg "_law_of" = some (.ref Z.a_law_of)
  b_law_of : Binds K Z.d_law_of ["_law_bag_here", "_law_things"] []
  F_law_same : Fun K "_law_same" "_law_same" s_law_same Z.a_law_same Z.d_law_same
  m_law_same : mg "_law_same" = some (.ref Z.a_law_same)
  b_law_same : Binds K Z.d_law_same ["_law_found", "_law_due"] []
  F_law_odd : Fun K "_law_odd" "_law_odd" s_law_odd Z.a_law_odd Z.d_law_odd
  m_law_odd : mg "_law_odd" = some (.ref Z.a_law_odd)
  b_law_odd : Binds K Z.d_law_odd ["_law_bag_here", "_law_more"] []
  F_law_is_title : Fun K "_law_is_title" "_law_is_title" s_law_is_title Z.a_law_is_title Z.d_law_is_title
  m_law_is_title : mg "_law_is_title" = some (.ref Z.a_law_is_title)
  b_law_is_title : Binds K Z.d_law_is_title ["_law_thing"] []
  F_law_within : Fun K "_law_within" "_law_within" s_law_within Z.a_law_within Z.d_law_within
  m_law_within : mg "_law_within" = some (.ref Z.a_law_within)
  b_law_within : Binds K Z.d_law_within ["_law_thing", "_law_low_y", "_law_high_y"] []
  F_law : Fun K "law" "law" s_law Z.a_law Z.d_law
  m_law : mg "law" = some (.ref Z.a_law)
  b_law : Binds K Z.d_law ["_law_script"] []
  n_abs : mg "abs" = none
  n_all : mg "all" = none
  n_bool : mg "bool" = none
  n_int : mg "int" = none
  n_isinstance : mg "isinstance" = none
  n_len : mg "len" = none
  n_list : mg "list" = none
  n_range : mg "range" = none
  n_str : mg "str" = none
  n_tuple : mg "tuple" = none
  n_zip : mg "zip" = none
  g_MOST_LETTERS : ∃ t, mg "MOST_LETTERS" = some (.int 6 t)
  g_MOST_WORD : ∃ t, mg "MOST_WORD" = some (.int 65535 t)
  g_REGISTERS : mg "REGISTERS" = some (.ref Z.c_REGISTERS)
  v_REGISTERS : ∀ H : Hp, SqT K H Z.c_REGISTERS [.str "r0", .str "r1", .str "r2"]
  L_REGISTERS : ∃ o, K.lookup Z.c_REGISTERS = some o ∧ o.cls = .type "tuple" ∧ o.dict = none
section
variable {X : Cx} {CX : CXT} {k : Nat} {f : Addr} {fd : FuncData} {ps ks : List Str} {sp : Sp} {E : XK} {x : Str} {p pos : Pos} {kws : List Keyword} {tk : TA} {g : List Value → List Value → List Value} {gV : List V → List V → List V}
/-- f(k = v, ..), no value by place -/
theorem pe_callN0 (F : FnOk X.prog X.w X.K X.mg X.base CX k f fd ps sp) (hr : Room k X.A) (hg : Gl X x) (hm : X.mg x = some (.ref f)) (hk : PySem.W.keepIn X.K (.ref f) = true) (hb : KBn X.K fd ps 0 ks g gV) (hx : Passes CX X E) (hkw : PK X kws tk)
    (hall : (backToKw pos (keywordEach kws X.env)).all (·.1.isSome) = true := by rfl) (hks : (backToKw pos (keywordEach kws X.env)).filterMap (·.1) = ks := by rfl) (hdb : (x == ("__debug__" : Str)) = false := by decide)
    (hpl : ((backTo pos (starEach [] X.env)).any (·.1) || (backToKw pos (keywordEach kws X.env)).any (·.1.isNone)) = false := by rfl) :
    PE X (.Call (.Name x p) [] kws pos) (tCallN 0 ks.length sp gV E tNil tk) := by
  refine ⟨fun pins s σ H Q I h => ?_⟩
  refine wpAny_Call_Name_kw (ld_glob I hg hm ?_ hdb)
  refine PySem.W.callWith_KW0 (h₀ := X.base) I.ok.mod.kin hk hall ?_ hpl
  refine thn (hkw.run pos pins s σ H _ I h) fun ws s2 ⟨zs, H2, I2, rz, l1, l2, q2⟩ => ⟨I2.kIn, ?_⟩
  rw [hks]
  exact run_fnN (us := []) (vs := []) F hr hb hx I2 .nil rz rfl l2 q2
end
theorem getD_rel : ∀ {vs : List V} {us : List Value} (h : Vals vs us) (i : Nat), RelV (vs.getD i .non) (us.getD i .none)
  | _, _, .nil, _ => rfl
  | _, _, .cons r _, 0 => r
  | _, _, .cons _ t, i + 1 => getD_rel t i
theorem kbn_k_is_name_0_value {K : PySem.W.Frag} {f : Addr} {fd : FuncData} (F : Fun K "is_name" "is_name" s_is_name f fd) : KBn K fd ["value"] 0 ["value"] (fun us ws => [(us ++ ws).getD 0 .none]) (fun us ws => [(us ++ ws).getD 0 .non]) := by
  obtain ⟨oc, od, kV, doc, pm, an, cdv, ct, osl, rfl, lk, hcd⟩ := F.ex
  refine ⟨fun s us ws _ l1 l2 => ?_, fun r1 r2 => .cons (getD_rel (r1.append r2) 0) (.nil)⟩
  match us, ws, l1, l2 with
  | [], [_], _, _ => exact .of_eq rfl
theorem kbn_k_is_register_0_value {K : PySem.W.Frag} {f : Addr} {fd : FuncData} (F : Fun K "is_register" "is_register" s_is_register f fd) : KBn K fd ["value"] 0 ["value"] (fun us ws => [(us ++ ws).getD 0 .none]) (fun us ws => [(us ++ ws).getD 0 .non]) := by
  obtain ⟨oc, od, kV, doc, pm, an, cdv, ct, osl, rfl, lk, hcd⟩ := F.ex
  refine ⟨fun s us ws _ l1 l2 => ?_, fun r1 r2 => .cons (getD_rel (r1.append r2) 0) (.nil)⟩
  match us, ws, l1, l2 with
  | [], [_], _, _ => exact .of_eq rfl
theorem kbn_k_is_word_0_value {K : PySem.W.Frag} {f : Addr} {fd : FuncData} (F : Fun K "is_word" "is_word" s_is_word f fd) : KBn K fd ["value"] 0 ["value"] (fun us ws => [(us ++ ws).getD 0 .none]) (fun us ws => [(us ++ ws).getD 0 .non]) := by
  obtain ⟨oc, od, kV, doc, pm, an, cdv, ct, osl, rfl, lk, hcd⟩ := F.ex
  refine ⟨fun s us ws _ l1 l2 => ?_, fun r1 r2 => .cons (getD_rel (r1.append r2) 0) (.nil)⟩
  match us, ws, l1, l2 with
  | [], [_], _, _ => exact .of_eq rfl
theorem kbn_k_is_number_0_most_least_value {K : PySem.W.Frag} {f : Addr} {fd : FuncData} (F : Fun K "is_number" "is_number" s_is_number f fd) : KBn K fd ["value", "least", "most"] 0 ["most", "least", "value"] (fun us ws => [(us ++ ws).getD 2 .none, (us ++ ws).getD 1 .none, (us ++ ws).getD 0 .none]) (fun us ws => [(us ++ ws).getD 2 .non, (us ++ ws).getD 1 .non, (us ++ ws).getD 0 .non]) := by
  obtain ⟨oc, od, kV, doc, pm, an, cdv, ct, osl, rfl, lk, hcd⟩ := F.ex
  refine ⟨fun s us ws _ l1 l2 => ?_, fun r1 r2 => .cons (getD_rel (r1.append r2) 2) (.cons (getD_rel (r1.append r2) 1) (.cons (getD_rel (r1.append r2) 0) (.nil)))⟩
  match us, ws, l1, l2 with
  | [], [_, _, _], _, _ => exact .of_eq rfl
/-! ### the bag of the law: a list of a list of ints and four numbers -/
def Bag (H : Hp) (b l : Addr) : Prop := ∃ (ns : List Int) (i : Nat) (r m n : Int), H b = some (.lst [.ref l, .int i, .int r, .int m, .int n]) ∧ H l = some (.lst (ns.map V.int)) ∧ l ≠ b ∧ ns.length ≤ 63 ∧ 0 ≤ r ∧ 0 ≤ m ∧ m < 2147483648
/-- all that was tracked, the bag apart, is as it was -/
def Stp (b : Addr) (H H' : Hp) : Prop := ∀ a o, a ≠ b → H a = some o → H' a = some o
theorem Stp.refl {b : Addr} {H : Hp} : Stp b H H := fun _ _ _ h => h
theorem Stp.trans {b : Addr} {H H1 H2 : Hp} (x : Stp b H H1) (y : Stp b H1 H2) : Stp b H H2 := fun a o n h => y a o n (x a o n h)
theorem Stp.put {b : Addr} {H : Hp} {o : HO} : Stp b H (upd H b o) := fun a u n h => by rw [upd_ne n]; exact h
theorem Stp.new {b p : Addr} {H : Hp} {o : HO} (h : H p = none) : Stp b H (upd H p o) := fun a u _ e => by rw [upd_ne (ne_of_none e h)]; exact e
theorem Same.new {p : Addr} {H : Hp} {o : HO} (h : H p = none) : Same H (upd H p o) := fun a u e => by rw [upd_ne (ne_of_none e h)]; exact e
theorem Same.stp {b : Addr} {H H' : Hp} (h : Same H H') : Stp b H H' := fun a o _ e => h a o e
theorem Bag.same {b l : Addr} {H H' : Hp} (s : Same H H') (h : Bag H b l) : Bag H' b l := by
  obtain ⟨ns, i, r, m, n, h1, h2, h3⟩ := h
  exact ⟨ns, i, r, m, n, s _ _ h1, s _ _ h2, h3⟩
theorem Bag.new {b l p : Addr} {H : Hp} {o : HO} (h : Bag H b l) (hp : H p = none) : Bag (upd H p o) b l := h.same (Same.new hp)
theorem Bag.ne {b l p : Addr} {H : Hp} (h : Bag H b l) (hp : H p = none) : p ≠ b := by
  obtain ⟨ns, i, r, m, n, h1, _⟩ := h
  exact (ne_of_none h1 hp).symm
theorem Bag.nel {b l p : Addr} {H : Hp} (h : Bag H b l) (hp : H p = none) : p ≠ l := by
  obtain ⟨ns, i, r, m, n, _, h1, _⟩ := h
  exact (ne_of_none h1 hp).symm
/-- a list of one's own is written -/
theorem Bag.put {b l p : Addr} {H : Hp} {o : HO} (h : Bag H b l) (n : p ≠ b) (nl : p ≠ l) : Bag (upd H p o) b l := by
  obtain ⟨ns, i, r, m, c, h1, h2, h3⟩ := h
  exact ⟨ns, i, r, m, c, by rw [upd_ne n.symm]; exact h1, by rw [upd_ne nl.symm]; exact h2, h3⟩
/-- what was new is new: the bag stands behind, too -/
theorem Stp.free {b l p : Addr} {H H' : Hp} (s : Stp b H H') (hb : Bag H' b l) (hp : H' p = none) : H p = none := by
  cases q : H p with
  | none => rfl
  | some o =>
    rw [s p o (hb.ne hp) q] at hp
    cases hp
theorem Stp.sqL {K : PySem.W.Frag} {b a : Addr} {H H' : Hp} {xs : List V} (s : Stp b H H') (n : a ≠ b) (h : SqL K H a xs) : SqL K H' a xs := by
  rcases h with (h | ⟨o, h⟩) | h
  · exact .inl (.inl (s _ _ n h))
  · exact .inl (.inr ⟨o, s _ _ n h⟩)
  · exact .inr h
theorem Stp.sqT {K : PySem.W.Frag} {b a : Addr} {H H' : Hp} {xs : List V} (s : Stp b H H') (n : a ≠ b) (h : SqT K H a xs) : SqT K H' a xs := by
  rcases h with (h | ⟨o, h⟩) | h
  · exact .inl (.inl (s _ _ n h))
  · exact .inl (.inr ⟨o, s _ _ n h⟩)
  · exact .inr h
/-- new: not tracked ahead, another one than the bag -/
theorem cut_ints (ns : List Int) (k : Nat) : cutV (ns.map V.int) none (some (k : Int)) = (ns.take k).map V.int := by
  unfold cutV
  rw [HT.sIx_none, HT.sIx_nat, List.drop_zero, Nat.sub_zero, List.map_take]
  by_cases h : k ≤ (ns.map V.int).length
  · rw [Nat.min_eq_left h]
  · rw [Nat.min_eq_right (by omega), List.take_length, List.take_of_length_le (by omega)]
theorem int_of_map {ns : List Int} {i : Nat} {y : V} (hi : (ns.map V.int)[i]? = some y) : ∃ u, y = V.int u := by
  rw [List.getElem?_map] at hi
  cases e : ns[i]? with
  | none => rw [e] at hi; cases hi
  | some u => rw [e] at hi; exact ⟨u, (Option.some.inj hi).symm⟩
theorem mem_at {α : Type} {xs : List α} {d : Int} (h0 : 0 ≤ d) (h1 : d < xs.length) : ∃ v, atI xs d = some v ∧ v ∈ xs := by
  obtain ⟨j, rfl⟩ : ∃ j : Nat, d = (j : Int) := ⟨d.toNat, by omega⟩
  have hj : j < xs.length := by omega
  exact ⟨xs[j], atI_nat (List.getElem?_eq_getElem hj), List.getElem_mem hj⟩

section
variable {P : Program} {w : World} {K : PySem.W.Frag} {mg : Str → Option Value} {base : Heap} {Z : Fs}
/-! ### _law_bag -/
def sp_law_bag (K : PySem.W.Frag) : Sp := fun vs H Q _ => ∃ (a : Addr) (ns : List Int), vs = [.ref a] ∧ SqL K H a (ns.map V.int) ∧ ns.length ≤ 63 ∧ ∀ (H' : Hp) (b l : Addr), Same H H' → H b = none → H l = none → Bag H' b l → Q (.ref b) H'
theorem ok_law_bag (T : Txt K w mg Z) : FnOk P w K mg base CX0 1 Z.a_law_bag Z.d_law_bag ["_law_script"] (sp_law_bag K) := by
  refine T.F_law_bag.ok sc_law_bag (fun vs H Q E h => ?_) (fun cdv A outer s H vs Q E hr h => ?_)
  · obtain ⟨a, ns, rfl, _⟩ := h
    rfl
  · obtain ⟨a, ns, rfl, hS, hlen, k⟩ := h
    refine ⟨_, (pss_cons (ps_set (i := 1) sc_law_bag.nd rfl (Or.inl rfl) pe_int)
      (pss_cons (ps_for PassesOwn.never rfl (pi_list (pe_slice sl_list (pv 0) po_none (po_some pe_int))) (pg_name (i := 2) sc_law_bag.nd rfl (Or.inl rfl)) (pss_one (ps_set (i := 1) sc_law_bag.nd rfl (Or.inl rfl) (pe_op op_mod (pe_callTy call_int1 (by rfl) T.n_int boot_int (pa_cons (pe_op op_add (pe_op op_add (pe_op op_mul (pv 1) pe_int) (pe_op op_mul (pe_op op_mod (pe_callTy call_int1 (by rfl) T.n_int boot_int (pa_cons (pv 2) pa_nil)) pe_int) pe_int)) pe_int) pa_nil)) pe_int))))
      (pss_one (ps_ret (pe_lst (pa_cons (pe_callTy call_list_of (by rfl) T.n_list boot_list (pa_cons (pe_slice sl_list (pv 0) po_none (po_some pe_int)) pa_nil)) (pa_cons pe_int (pa_cons pe_int (pa_cons (pv 1) (pa_cons pe_int pa_nil)))))))))), ?_⟩
    refine ⟨.ref a, rfl, 63, rfl, a, ns.map V.int, rfl, hS, fun p hp => ?_⟩
    have s1 : Same H (upd H p (.lst (cutV (ns.map V.int) none (some 63)))) := Same.new hp
    have ec : cutV (ns.map V.int) none (some 63) = (ns.take 63).map V.int := cut_ints ns 63
    refine ⟨p, rfl, ⟨_, SqL.of upd_same⟩, for_list (K := K) (a := p) (xs := cutV (ns.map V.int) none (some 63)) (fun i σ H' => ∃ (m : Int) (v : Option V), σ = [some (.ref a), some (.int m), v] ∧ Same (upd H p (.lst (cutV (ns.map V.int) none (some 63)))) H' ∧ 0 ≤ m ∧ m < 2147483579)
      ⟨12026, none, rfl, Same.refl _, by decide, by decide⟩ (fun i σ H' _ ⟨_, _, _, s2, _⟩ => SqL.of (s2 _ _ upd_same)) ?_ ?_⟩
    · rintro i y σ H' hi ⟨m, v, rfl, s2, h0, h1⟩
      rw [ec] at hi
      obtain ⟨u, rfl⟩ := int_of_map hi
      refine ⟨_, rfl, _, _, rfl, rfl, .inr ⟨by decide, by decide⟩, _, rfl, .inl ⟨_, rfl, _, _, rfl, rfl, (by show (0 : Int) < 1000639; decide), _, _, rfl, rfl, .inr ⟨by decide, by decide⟩, _, _, rfl, rfl, _, _, rfl, rfl, .inl ⟨_, rfl, _, _, rfl, rfl, (by show (0 : Int) < 2147483579; decide), ?_⟩⟩⟩
      exact ⟨_, _, rfl, s2, Int.emod_nonneg _ (by decide), Int.emod_lt_of_pos _ (by decide)⟩
    · rintro σ H' ⟨m, v, rfl, s2, h0, h1⟩
      refine ⟨.ref a, rfl, 63, rfl, a, ns.map V.int, rfl, (s1.trans s2).seq hS, fun q hq => ⟨q, _, rfl, .inl (SqL.of upd_same), fun l hl => ⟨_, rfl, (by show 5 ≤ sizeLine; decide), fun b hb => ?_⟩⟩⟩
      have nlb : l ≠ b := fun e => by
        rw [← e, upd_same] at hb
        cases hb
      have s3 := ((s1.trans s2).trans (Same.new (o := .lst (cutV (ns.map V.int) none (some 63))) hq)).trans (Same.new (o := .lst (cutV (ns.map V.int) none (some 63))) hl)
      refine k _ b l (s3.trans (Same.new hb)) (s3.free hb) (((s1.trans s2).trans (Same.new (o := .lst (cutV (ns.map V.int) none (some 63))) hq)).free hl) ⟨ns.take 63, 0, 0, m, 0, upd_same, ?_, nlb, ?_, by decide, h0, by omega⟩
      · rw [upd_ne nlb, upd_same, ec]
      · rw [List.length_take]
        omega
end

section
variable {P : Program} {w : World} {K : PySem.W.Frag} {mg : Str → Option Value} {base : Heap} {Z : Fs}
/-! ### _law_draw -/
def sp_law_draw : Sp := fun vs H Q _ => ∃ (b l : Addr) (d : Int), vs = [.ref b, .int d] ∧ Bag H b l ∧ 0 < d ∧ d < 1073741824 ∧ ∀ (H' : Hp) (v : Int), Stp b H H' → Bag H' b l → 0 ≤ v → v < d → Q (.int v) H'
theorem ok_law_draw (T : Txt K w mg Z) : FnOk P w K mg base CX0 1 Z.a_law_draw Z.d_law_draw ["_law_bag_here", "_law_sides"] sp_law_draw := by
  refine T.F_law_draw.ok sc_law_draw (fun vs H Q E h => ?_) (fun cdv A outer s H vs Q E hr h => ?_)
  · obtain ⟨b, l, d, rfl, _⟩ := h
    rfl
  · obtain ⟨b, l, d, rfl, ⟨ns, i, r, m, n, hb, hl, nlb, hlen, r0, m0, m1⟩, d0, d1, k⟩ := h
    refine ⟨_, (pss_cons (ps_asg (pe_op op_add (pe_ix ix_list (pv 0) pe_int (fun _ _ => rfl)) pe_int) (pg_sub (pv 0) pe_int set_list))
      (C8.pss_cut (ps_if (PW.pt (pw_and (pt_cmpR op_eq (pe_ix ix_list (pv 0) pe_int (fun _ _ => rfl)) pe_int (nomark _)) (pw_and1 (pt_cmpR op_lt (pe_ix ix_list (pv 0) pe_int (fun _ _ => rfl)) (pe_callB call_len (by rfl) T.n_len boot_len (pa_cons (pe_ix ix_list (pv 0) pe_int (fun _ _ => rfl)) pa_nil)) (nomark _))))) (pss_cons (ps_set (i := 2) sc_law_draw.nd rfl (Or.inl rfl) (pe_callTy call_int1 (by rfl) T.n_int boot_int (pa_cons (pe_ix ix_list (pe_ix ix_list (pv 0) pe_int (fun _ _ => rfl)) (pe_ix ix_list (pv 0) pe_int (fun _ _ => rfl)) (fun _ _ => rfl)) pa_nil)))
      (pss_cons (ps_asg (pe_op op_add (pe_ix ix_list (pv 0) pe_int (fun _ _ => rfl)) pe_int) (pg_sub (pv 0) pe_int set_list))
      (pss_one (ps_if (pt_cmpR op_ge (pe_callB call_abs (by rfl) T.n_abs boot_abs (pa_cons (pv 2) pa_nil)) (pe_op op_pow pe_int pe_int) (nomark _)) (pss_one (ps_asg (pe_callB call_abs (by rfl) T.n_abs boot_abs (pa_cons (pv 2) pa_nil)) (pg_sub (pv 0) pe_int set_list))) (pss_one (ps_asg (pe_op op_mod (pe_callTy call_int1 (by rfl) T.n_int boot_int (pa_cons (pe_op op_add (pe_op op_add (pe_op op_mul (pe_ix ix_list (pv 0) pe_int (fun _ _ => rfl)) pe_int) (pe_op op_mul (pe_op op_mod (pe_callTy call_int1 (by rfl) T.n_int boot_int (pa_cons (pv 2) pa_nil)) pe_int) pe_int)) pe_int) pa_nil)) pe_int) (pg_sub (pv 0) pe_int set_list))))))) pss_nil)
      (pss_cons (ps_if (pt_cmpR op_gt (pe_ix ix_list (pv 0) pe_int (fun _ _ => rfl)) pe_int (nomark _)) (pss_cons (ps_set (i := 3) sc_law_draw.nd rfl (Or.inl rfl) (pe_op op_mod (pe_callTy call_int1 (by rfl) T.n_int boot_int (pa_cons (pe_ix ix_list (pv 0) pe_int (fun _ _ => rfl)) pa_nil)) (pv 1)))
      (pss_cons (ps_asg (pe_op op_fdiv (pe_ix ix_list (pv 0) pe_int (fun _ _ => rfl)) (pv 1)) (pg_sub (pv 0) pe_int set_list))
      (pss_one (ps_ret (pv 3))))) pss_nil)
      (pss_cons (ps_set (i := 4) sc_law_draw.nd rfl (Or.inl rfl) (pe_callTy call_int1 (by rfl) T.n_int boot_int (pa_cons (pe_ix ix_list (pv 0) pe_int (fun _ _ => rfl)) pa_nil)))
      (pss_cons (ps_asg (pe_op op_mod (pe_callTy call_int1 (by rfl) T.n_int boot_int (pa_cons (pe_op op_add (pe_op op_add (pe_op op_add (pe_op op_mul (pe_op op_mul (pv 4) (pv 4)) pe_int) (pe_op op_mul (pv 4) pe_int)) (pe_op op_mul (pe_ix ix_list (pv 0) pe_int (fun _ _ => rfl)) pe_int)) pe_int) pa_nil)) pe_int) (pg_sub (pv 0) pe_int set_list))
      (pss_one (ps_ret (pe_op op_mod (pe_callTy call_int1 (by rfl) T.n_int boot_int (pa_cons (pe_op op_add (pe_op op_fdiv (pe_ix ix_list (pv 0) pe_int (fun _ _ => rfl)) pe_int) (pe_op op_mul (pe_op op_mod (pe_callTy call_int1 (by rfl) T.n_int boot_int (pa_cons (pe_ix ix_list (pv 0) pe_int (fun _ _ => rfl)) pa_nil)) pe_int) pe_int)) pa_nil)) (pv 1))))))))), ?_⟩
    -- bag[4] = bag[4] + 1
    refine ⟨.ref b, rfl, b, _, 4, .int n, rfl, rfl, SqL.of hb, atI_nat (j := 4) rfl, n, 1, rfl, rfl, .ref b, rfl, b, _, 4, 4, rfl, rfl, hb, rfl, ?_⟩
    refine ⟨fun σ' H' => ∃ (y2 : Option V), σ' = [some (.ref b), some (.int d), y2, none, none] ∧ Stp b H H' ∧ Bag H' b l, ?_, ?_⟩
    · have hb1 : (upd H b (.lst ([V.ref l, .int i, .int r, .int m, .int n].set 4 (.int (n + 1))))) b = some (.lst [.ref l, .int i, .int r, .int m, .int (n + 1)]) := upd_same
      have hl1 : (upd H b (.lst ([V.ref l, .int i, .int r, .int m, .int n].set 4 (.int (n + 1))))) l = some (.lst (ns.map V.int)) := by
        rw [upd_ne nlb]
        exact hl
      have s1 : Stp b H (upd H b (.lst ([V.ref l, .int i, .int r, .int m, .int n].set 4 (.int (n + 1))))) := Stp.put
      generalize upd H b (.lst ([V.ref l, .int i, .int r, .int m, .int n].set 4 (.int (n + 1)))) = H1 at hb1 hl1 s1 ⊢
      have B1 : Bag H1 b l := ⟨ns, i, r, m, n + 1, hb1, hl1, nlb, hlen, r0, m0, m1⟩
      -- if bag[2] == 0 and bag[1] < len(bag[0])
      refine ⟨.ref b, rfl, b, _, 2, .int r, rfl, rfl, SqL.of hb1, atI_nat (j := 2) rfl, rfl, _, rfl, ?_⟩
      refine ite2 (fun _ => ?_) (fun _ => ?_)
      · refine ⟨.ref b, rfl, b, _, 1, .int i, rfl, rfl, SqL.of hb1, atI_nat (j := 1) rfl, .ref b, rfl, b, _, 0, .ref l, rfl, rfl, SqL.of hb1, atI_nat (j := 0) rfl, .ref l, ns.length, rfl, .inl ⟨_, SqL.of hl1, by rw [List.length_map]⟩, _, _, rfl, rfl, _, rfl, ?_⟩
        refine ite2 (fun hi => ?_) (fun _ => ?_)
        · have hi' : i < ns.length := by
            have q := of_decide_eq_true hi
            omega
          have gi : atI (ns.map V.int) (i : Int) = some (.int ns[i]) := atI_nat (by rw [List.getElem?_map, List.getElem?_eq_getElem hi']; rfl)
          -- piled = int(bag[0][bag[1]])
          refine ⟨.ref b, rfl, b, _, 0, .ref l, rfl, rfl, SqL.of hb1, atI_nat (j := 0) rfl, .ref b, rfl, b, _, 1, .int i, rfl, rfl, SqL.of hb1, atI_nat (j := 1) rfl, l, _, _, _, rfl, rfl, SqL.of hl1, gi, .inl ⟨_, rfl, ?_⟩⟩
          -- bag[1] = bag[1] + 1
          refine ⟨.ref b, rfl, b, _, 1, .int i, rfl, rfl, SqL.of hb1, atI_nat (j := 1) rfl, i, 1, rfl, rfl, .ref b, rfl, b, _, 1, 1, rfl, rfl, hb1, rfl, ?_⟩
          have hb2 : (upd H1 b (.lst ([V.ref l, .int i, .int r, .int m, .int (n + 1)].set 1 (.int (i + 1))))) b = some (.lst [.ref l, .int ((i + 1 : Nat) : Int), .int r, .int m, .int (n + 1)]) := upd_same
          have hl2 : (upd H1 b (.lst ([V.ref l, .int i, .int r, .int m, .int (n + 1)].set 1 (.int (i + 1))))) l = some (.lst (ns.map V.int)) := by
            rw [upd_ne nlb]
            exact hl1
          have s2 : Stp b H (upd H1 b (.lst ([V.ref l, .int i, .int r, .int m, .int (n + 1)].set 1 (.int (i + 1))))) := s1.trans Stp.put
          generalize upd H1 b (.lst ([V.ref l, .int i, .int r, .int m, .int (n + 1)].set 1 (.int (i + 1)))) = H2 at hb2 hl2 s2 ⊢
          -- if abs(piled) >= 10 ** 18
          refine ⟨.int ns[i], rfl, _, rfl, 10, 18, rfl, rfl, ⟨by decide, by decide, by decide⟩, _, _, rfl, rfl, _, rfl, ?_⟩
          refine ite2 (fun _ => ?_) (fun _ => ?_)
          · refine ⟨.int ns[i], rfl, _, rfl, .ref b, rfl, b, _, 2, 2, rfl, rfl, hb2, rfl, ?_⟩
            refine ⟨_, rfl, s2.trans Stp.put, ns, i + 1, _, m, n + 1, upd_same, ?_, nlb, hlen, ?_, m0, m1⟩
            · rw [upd_ne nlb]
              exact hl2
            · show 0 ≤ (if ns[i] < 0 then -ns[i] else ns[i])
              split <;> omega
          · refine ⟨.ref b, rfl, b, _, 3, .int m, rfl, rfl, SqL.of hb2, atI_nat (j := 3) rfl, _, _, rfl, rfl, .inr ⟨by decide, by decide⟩, .int ns[i], rfl, .inl ⟨_, rfl, _, _, rfl, rfl, (by show (0 : Int) < 1000639; decide), _, _, rfl, rfl, .inr ⟨by decide, by decide⟩, _, _, rfl, rfl, _, _, rfl, rfl, .inl ⟨_, rfl, _, _, rfl, rfl, (by show (0 : Int) < 2147483587; decide), .ref b, rfl, b, _, 3, 3, rfl, rfl, hb2, rfl, ?_⟩⟩⟩
            refine ⟨_, rfl, s2.trans Stp.put, ns, i + 1, r, _, n + 1, upd_same, ?_, nlb, hlen, r0, Int.emod_nonneg _ (by decide), Int.lt_trans (Int.emod_lt_of_pos _ (by decide)) (by decide)⟩
            rw [upd_ne nlb]
            exact hl2
        · exact ⟨_, rfl, s1, B1⟩
      · exact ⟨_, rfl, s1, B1⟩
    · rintro σ' H1 ⟨y2, rfl, s1, ns, i, r, m, n, hb1, hl1, nlb, hlen, r0, m0, m1⟩
      -- if bag[2] > 0
      refine ⟨.ref b, rfl, b, _, 2, .int r, rfl, rfl, SqL.of hb1, atI_nat (j := 2) rfl, _, _, rfl, rfl, _, rfl, ?_⟩
      refine ite2 (fun _ => ?_) (fun _ => ?_)
      · refine ⟨.ref b, rfl, b, _, 2, .int r, rfl, rfl, SqL.of hb1, atI_nat (j := 2) rfl, .inl ⟨_, rfl, .int d, rfl, _, _, rfl, rfl, d0, ?_⟩⟩
        refine ⟨.ref b, rfl, b, _, 2, .int r, rfl, rfl, SqL.of hb1, atI_nat (j := 2) rfl, .int d, rfl, _, _, rfl, rfl, ⟨d0, d1⟩, .ref b, rfl, b, _, 2, 2, rfl, rfl, hb1, rfl, ?_⟩
        refine ⟨_, rfl, k _ _ (s1.trans Stp.put) ⟨ns, i, _, m, n, upd_same, ?_, nlb, hlen, Int.ediv_nonneg r0 (Int.le_of_lt d0), m0, m1⟩ (Int.emod_nonneg _ (by omega)) (Int.emod_lt_of_pos _ d0)⟩
        rw [upd_ne nlb]
        exact hl1
      · -- seed
        refine ⟨.ref b, rfl, b, _, 3, .int m, rfl, rfl, SqL.of hb1, atI_nat (j := 3) rfl, .inl ⟨_, rfl, ?_⟩⟩
        refine ⟨.int m, rfl, .int m, rfl, _, _, rfl, rfl, .inl ⟨by omega, by omega⟩, _, _, rfl, rfl, .inr ⟨by decide, by decide⟩, .int m, rfl, _, _, rfl, rfl, .inr ⟨by decide, by decide⟩, _, _, rfl, rfl,
          .ref b, rfl, b, _, 4, .int n, rfl, rfl, SqL.of hb1, atI_nat (j := 4) rfl, _, _, rfl, rfl, .inr ⟨by decide, by decide⟩, _, _, rfl, rfl, _, _, rfl, rfl, .inl ⟨_, rfl, _, _, rfl, rfl, (by show (0 : Int) < 2147483549; decide), .ref b, rfl, b, _, 3, 3, rfl, rfl, hb1, rfl, ?_⟩⟩
        have hm0 := Int.emod_nonneg (m * m * 19 + m * 47111 + n * 110323 + 60089) (show (2147483549 : Int) ≠ 0 by decide)
        have hm1 := Int.emod_lt_of_pos (m * m * 19 + m * 47111 + n * 110323 + 60089) (show (0 : Int) < 2147483549 by decide)
        have hb2 : (upd H1 b (.lst ([V.ref l, .int i, .int r, .int m, .int n].set 3 (.int ((m * m * 19 + m * 47111 + n * 110323 + 60089) % 2147483549))))) b = some (.lst [.ref l, .int i, .int r, .int ((m * m * 19 + m * 47111 + n * 110323 + 60089) % 2147483549), .int n]) := upd_same
        have hl2 : (upd H1 b (.lst ([V.ref l, .int i, .int r, .int m, .int n].set 3 (.int ((m * m * 19 + m * 47111 + n * 110323 + 60089) % 2147483549))))) l = some (.lst (ns.map V.int)) := by
          rw [upd_ne nlb]
          exact hl1
        have s2 : Stp b H (upd H1 b (.lst ([V.ref l, .int i, .int r, .int m, .int n].set 3 (.int ((m * m * 19 + m * 47111 + n * 110323 + 60089) % 2147483549))))) := s1.trans Stp.put
        generalize upd H1 b (.lst ([V.ref l, .int i, .int r, .int m, .int n].set 3 (.int ((m * m * 19 + m * 47111 + n * 110323 + 60089) % 2147483549)))) = H2 at hb2 hl2 s2 ⊢
        generalize (m * m * 19 + m * 47111 + n * 110323 + 60089) % 2147483549 = m2 at hb2 hm0 hm1 ⊢
        refine ⟨.ref b, rfl, b, _, 3, .int m2, rfl, rfl, SqL.of hb2, atI_nat (j := 3) rfl, _, _, rfl, rfl, ⟨by decide, by decide⟩, .ref b, rfl, b, _, 3, .int m2, rfl, rfl, SqL.of hb2, atI_nat (j := 3) rfl, .inl ⟨_, rfl, _, _, rfl, rfl, (by show (0 : Int) < 8017; decide), _, _, rfl, rfl, .inr ⟨by decide, by decide⟩, _, _, rfl, rfl, .inl ⟨_, rfl, .int d, rfl, _, _, rfl, rfl, d0, ?_⟩⟩⟩
        exact k _ _ s2 ⟨ns, i, r, m2, n, hb2, hl2, nlb, hlen, r0, hm0, by omega⟩ (Int.emod_nonneg _ (by omega)) (Int.emod_lt_of_pos _ d0)
/-! ### _law_of -/
/-- what is drawn from: a text, or a list that is not the bag; P what holds of each thing -/
def Thg (K : PySem.W.Frag) (H : Hp) (b : Addr) (t : V) (Pt : V → Prop) : Prop := (∃ z : Str, t = .str z ∧ 0 < z.cps.size ∧ z.cps.size ≤ 100000 ∧ ∀ c ∈ z.cps.toList, Pt (.str ⟨#[c]⟩)) ∨ ∃ (a : Addr) (xs : List V), t = .ref a ∧ a ≠ b ∧ SqL K H a xs ∧ 0 < xs.length ∧ xs.length ≤ 100000 ∧ ∀ v ∈ xs, Pt v
def sp_law_of (K : PySem.W.Frag) : Sp := fun vs H Q _ => ∃ (b l : Addr) (t : V) (Pt : V → Prop), vs = [.ref b, t] ∧ Bag H b l ∧ Thg K H b t Pt ∧ ∀ (H' : Hp) (v : V), Stp b H H' → Bag H' b l → Pt v → Q v H'
theorem ok_law_of (T : Txt K w mg Z) : FnOk P w K mg base CX0 2 Z.a_law_of Z.d_law_of ["_law_bag_here", "_law_things"] (sp_law_of K) := by
  have G_law_draw : FnOk P w K mg base CX0 1 Z.a_law_draw Z.d_law_draw ["_law_bag_here", "_law_sides"] sp_law_draw := ok_law_draw T
  refine T.F_law_of.ok sc_law_of (fun vs H Q E h => ?_) (fun cdv A outer s H vs Q E hr h => ?_)
  · obtain ⟨b, l, t, Pt, rfl, _⟩ := h
    rfl
  · obtain ⟨b, l, t, Pt, rfl, B, ht, k⟩ := h
    refine ⟨_, (pss_one (ps_ret (pe_ix ix_seq (pv 1) (pe_call G_law_draw (hr.mono (by omega)) (by rfl) T.m_law_draw T.F_law_draw.kp T.b_law_draw .nil pass0 (pa_cons (pv 0) (pa_cons (pe_callB call_len (by rfl) T.n_len boot_len (pa_cons (pv 1) pa_nil)) pa_nil))) (fun _ _ => rfl)))), ?_⟩
    rcases ht with ⟨z, rfl, z0, z1, hz⟩ | ⟨a, xs, rfl, nab, hx, x0, x1, hv⟩
    · refine ⟨_, rfl, .ref b, rfl, .str z, rfl, .str z, z.cps.size, rfl, ⟨Nat.le_trans z1 (by decide), rfl⟩, b, l, _, rfl, B, by omega, by omega, fun H' v s1 B1 v0 v1 => ?_⟩
      obtain ⟨c, hc, hm⟩ := mem_at (xs := z.cps.toList) v0 (by simpa using v1)
      exact .inr (.inr ⟨z, v, c, rfl, rfl, Nat.le_trans z1 (by decide), hc, k _ _ s1 B1 (hz c hm)⟩)
    · refine ⟨_, rfl, .ref b, rfl, .ref a, rfl, .ref a, xs.length, rfl, .inl ⟨_, hx, rfl⟩, b, l, _, rfl, B, by omega, by omega, fun H' v s1 B1 v0 v1 => ?_⟩
      obtain ⟨c, hc, hm⟩ := mem_at (xs := xs) v0 v1
      exact .inl ⟨a, xs, v, c, rfl, rfl, s1.sqL nab hx, hc, k _ _ s1 B1 (hv c hm)⟩
end

theorem iteN {p A B : Prop} [Decidable p] (h : ¬ p) (q : B) : if decide p = true then A else B := by
  rw [decide_eq_false h]
  exact iteF q
theorem iteY {p A B : Prop} [Decidable p] (h : p) (q : A) : if decide p = true then A else B := by
  rw [decide_eq_true h]
  exact iteT q
theorem Same.put {H H' : Hp} {p : Addr} {o : HO} (s : Same H H') (h : H p = none) : Same H (upd H' p o) := fun a u e => by
  rw [upd_ne (ne_of_none e h)]
  exact s a u e
theorem Same.sqT {K : PySem.W.Frag} {H H' : Hp} {a : Addr} {xs : List V} (e : Same H H') (h : SqT K H a xs) : SqT K H' a xs := by
  rcases h with (h | ⟨o, h⟩) | h
  · exact .inl (.inl (e _ _ h))
  · exact .inl (.inr ⟨o, e _ _ h⟩)
  · exact .inr h
theorem tyx_l {K : PySem.W.Frag} {H : Hp} {a : Addr} {xs : List V} (h : SqL K H a xs) : TyX K H (.ref a) (.type "list") := by
  rcases h with (h | ⟨o, h⟩) | ⟨o, its, n, h, hc, _⟩
  · exact .base (.lst h)
  · exact .base (.frz h)
  · exact .kList h hc
theorem tyx_t {K : PySem.W.Frag} {H : Hp} {a : Addr} {xs : List V} (h : SqT K H a xs) : TyX K H (.ref a) (.type "tuple") := by
  rcases h with (h | ⟨o, h⟩) | ⟨o, its, n, h, hc, _⟩
  · exact .base (.tup h)
  · exact .fTuple h
  · exact .kTuple h hc
/-- the name of a flat value's type -/
def flatT : V → String
  | .bl _ => "bool"
  | .int _ => "int"
  | .str _ => "str"
  | _ => "NoneType"
theorem tyx_f {K : PySem.W.Frag} {H : Hp} {x : V} (h : flatV x = true) : TyX K H x (.type (flatT x)) := by
  cases x with
  | non => exact .base .non
  | bl b => exact .base (.bl b)
  | int i => exact .base (.int i)
  | str z => exact .base (.str z)
  | _ => cases h
theorem walk_zipT {K : PySem.W.Frag} {a b : Addr} {xs ys : List V} {n : Nat} (hn : n = min xs.length ys.length) : Walk (RZ.ItzT K a b) n (fun H => SqT K H a xs ∧ SqT K H b ys) (YPair (fun i => xs[i]?) (fun i => ys[i]?)) := by
  subst hn
  refine ⟨fun i _ hi q => ?_, fun _ q => ⟨xs, ys, q.1, q.2, by omega⟩, fun i H v H' _ q y => ?_⟩
  · have h1 : i < xs.length := by omega
    have h2 : i < ys.length := by omega
    exact ⟨xs, ys, xs[i], ys[i], q.1, q.2, by simp [h1], by simp [h2]⟩
  · obtain ⟨T, x, z, h1, h2, h3, h4, h5⟩ := y
    exact ⟨T, x, z, h1, h2, h3, h4 xs q.1, h5 ys q.2⟩
theorem all_rep (n : Nat) : (List.replicate n true).all id = true := by
  rw [List.all_eq_true]
  intro x hx
  rw [(List.mem_replicate.mp hx).2]
  rfl
/-- two values that are the same data, n deep at most -/
def Eqd (K : PySem.W.Frag) (H : Hp) : Nat → V → V → Prop
  | 0, x, y => flatV x = true ∧ x = y
  | n + 1, x, y => (flatV x = true ∧ x = y) ∨ ∃ (a b : Addr) (xs ys : List V), x = .ref a ∧ y = .ref b ∧ ((SqL K H a xs ∧ SqL K H b ys) ∨ (SqT K H a xs ∧ SqT K H b ys)) ∧ xs.length = ys.length ∧ xs.length ≤ 100000 ∧ ∀ (i : Nat) (u v : V), xs[i]? = some u → ys[i]? = some v → Eqd K H n u v
theorem Eqd.same {K : PySem.W.Frag} {H H' : Hp} (s : Same H H') : ∀ {n : Nat} {x y : V}, Eqd K H n x y → Eqd K H' n x y
  | 0, _, _, h => h
  | n + 1, _, _, .inl h => .inl h
  | n + 1, _, _, .inr ⟨a, b, xs, ys, e1, e2, h, hl, hz, hi⟩ => .inr ⟨a, b, xs, ys, e1, e2, by
      rcases h with ⟨h1, h2⟩ | ⟨h1, h2⟩
      · exact .inl ⟨s.seq h1, s.seq h2⟩
      · exact .inr ⟨Same.sqT s h1, Same.sqT s h2⟩, hl, hz, fun i u v hu hv => (hi i u v hu hv).same s⟩
theorem Eqd.flat {K : PySem.W.Frag} {H : Hp} {n : Nat} {x : V} (h : flatV x = true) : Eqd K H n x x := by
  cases n with
  | zero => exact ⟨h, rfl⟩
  | succ n => exact .inl ⟨h, rfl⟩
theorem kitLT {K : PySem.W.Frag} {T : String} (h1 : kitB T "list" = some false) (h2 : kitB T "tuple" = some false) : PySem.W.kitAny K (.type T) [.type "list", .type "tuple"] = some false :=
  kitAny_cons (b := false) (kit_ty h1) (fun _ => kitAny_cons (b := false) (kit_ty h2) (fun _ => kitAny_nil) fun e => nomatch e) fun e => nomatch e
theorem kitLl {K : PySem.W.Frag} : PySem.W.kitAny K (.type "list") [.type "list", .type "tuple"] = some true :=
  kitAny_cons (b := true) (kit_ty (by decide +kernel)) (fun e => nomatch e) fun _ => rfl
theorem kitLt {K : PySem.W.Frag} : PySem.W.kitAny K (.type "tuple") [.type "list", .type "tuple"] = some true :=
  kitAny_cons (b := false) (kit_ty (by decide +kernel)) (fun _ => kitAny_cons (b := true) (kit_ty (by decide +kernel)) (fun e => nomatch e) fun _ => rfl) fun e => nomatch e

section
variable {P : Program} {w : World} {K : PySem.W.Frag} {mg : Str → Option Value} {base : Heap} {Z : Fs}
/-! ### _law_same -/
def sp_law_same (K : PySem.W.Frag) (n : Nat) : Sp := fun vs H Q _ => ∃ x y : V, vs = [x, y] ∧ Eqd K H n x y ∧ ∀ H' : Hp, Same H H' → Q (.bl true) H'
theorem ok_law_same (T : Txt K w mg Z) : ∀ n : Nat, FnOk P w K mg base CX0 (n + 1) Z.a_law_same Z.d_law_same ["_law_found", "_law_due"] (sp_law_same K n)
  | 0 => by
    refine T.F_law_same.ok sc_law_same (fun vs H Q E h => ?_) (fun cdv A outer s H vs Q E hr h => ?_)
    · obtain ⟨x, y, rfl, _⟩ := h
      rfl
    · obtain ⟨x, y, rfl, ⟨hf, rfl⟩, k⟩ := h
      refine ⟨_, (pss_cons (ps_if (PW.pt (pw_or (pt_cmp (pc_isN (pv 1))) (pw_or1 (pt_cmp (pc_isN (pv 0)))))) (pss_one (ps_ret (pe_and (pe_cmp (pc_isN (pv 1)) rfl) (pe_one (pe_cmp (pc_isN (pv 0)) rfl))))) pss_nil)
      (pss_cons (ps_if (pt_val (pe_callB call_isiT (by rfl) T.n_isinstance boot_isinstance (pa_cons (pv 1) (pa_cons (pe_tup (pa_cons (pe_bltn (v := .ty "list") (by rfl) T.n_list boot_list rfl) (pa_cons (pe_bltn (v := .ty "tuple") (by rfl) T.n_tuple boot_tuple rfl) pa_nil))) pa_nil)))) pss_never pss_nil)
      (pss_cons (ps_if (PW.pt (pw_or (pt_cmpR op_ne (pe_callB call_isi (by rfl) T.n_isinstance boot_isinstance (pa_cons (pv 1) (pa_cons (pe_bltn (v := .ty "bool") (by rfl) T.n_bool boot_bool rfl) pa_nil))) (pe_callB call_isi (by rfl) T.n_isinstance boot_isinstance (pa_cons (pv 0) (pa_cons (pe_bltn (v := .ty "bool") (by rfl) T.n_bool boot_bool rfl) pa_nil))) (nomark _)) (pw_or1 (pt_cmpR op_ne (pe_callB call_isi (by rfl) T.n_isinstance boot_isinstance (pa_cons (pv 1) (pa_cons (pe_bltn (v := .ty "int") (by rfl) T.n_int boot_int rfl) pa_nil))) (pe_callB call_isi (by rfl) T.n_isinstance boot_isinstance (pa_cons (pv 0) (pa_cons (pe_bltn (v := .ty "int") (by rfl) T.n_int boot_int rfl) pa_nil))) (nomark _))))) (pss_one (ps_ret pe_bl)) pss_nil)
      (pss_one (ps_ret (pe_and (pe_cmpR op_eq (pe_callB call_isi (by rfl) T.n_isinstance boot_isinstance (pa_cons (pv 1) (pa_cons (pe_bltn (v := .ty "str") (by rfl) T.n_str boot_str rfl) pa_nil))) (pe_callB call_isi (by rfl) T.n_isinstance boot_isinstance (pa_cons (pv 0) (pa_cons (pe_bltn (v := .ty "str") (by rfl) T.n_str boot_str rfl) pa_nil))) (nomark _)) (pe_one (pe_cmpR op_eq (pv 0) (pv 1) (nomark _))))))))), ?_⟩
      cases x with
      | non => exact ⟨.non, rfl, _, rfl, iteY rfl ⟨.non, rfl, _, rfl, iteY rfl ⟨.non, rfl, k _ (Same.refl _)⟩⟩⟩
      | bl v =>
        refine ⟨.bl v, rfl, _, rfl, iteN (fun e => nomatch e) ⟨.bl v, rfl, _, rfl, iteN (fun e => nomatch e) ?_⟩⟩
        refine ⟨.bl v, rfl, (by show 2 ≤ sizeLine; decide), fun p hp => ⟨.bl v, p, _, _, _, false, rfl, upd_same, .cons (.ty _) (.cons (.ty _) .nil), .base (.bl v), kitLT (by decide +kernel) (by decide +kernel), _, rfl, iteF ?_⟩⟩
        refine ⟨.bl v, rfl, .bl v, .ty "bool", _, _, true, rfl, .ty _, .base (.bl v), kit_ty (by decide +kernel), .bl v, rfl, .bl v, .ty "bool", _, _, true, rfl, .ty _, .base (.bl v), kit_ty (by decide +kernel), rfl, _, rfl, iteNS rfl ?_⟩
        refine ⟨.bl v, rfl, .bl v, .ty "int", _, _, true, rfl, .ty _, .base (.bl v), kit_ty (by decide +kernel), .bl v, rfl, .bl v, .ty "int", _, _, true, rfl, .ty _, .base (.bl v), kit_ty (by decide +kernel), rfl, _, rfl, iteNS rfl ?_⟩
        refine ⟨.bl v, rfl, .bl v, .ty "str", _, _, false, rfl, .ty _, .base (.bl v), kit_ty (by decide +kernel), .bl v, rfl, .bl v, .ty "str", _, _, false, rfl, .ty _, .base (.bl v), kit_ty (by decide +kernel), rfl, _, rfl, iteY rfl ?_⟩
        refine ⟨.bl v, rfl, .bl v, rfl, rfl, ?_⟩
        show Q (.bl (decide (V.bl v = V.bl v))) _
        rw [decide_eq_true rfl]
        exact k _ (Same.new hp)
      | int v =>
        refine ⟨.int v, rfl, _, rfl, iteN (fun e => nomatch e) ⟨.int v, rfl, _, rfl, iteN (fun e => nomatch e) ?_⟩⟩
        refine ⟨.int v, rfl, (by show 2 ≤ sizeLine; decide), fun p hp => ⟨.int v, p, _, _, _, false, rfl, upd_same, .cons (.ty _) (.cons (.ty _) .nil), .base (.int v), kitLT (by decide +kernel) (by decide +kernel), _, rfl, iteF ?_⟩⟩
        refine ⟨.int v, rfl, .int v, .ty "bool", _, _, false, rfl, .ty _, .base (.int v), kit_ty (by decide +kernel), .int v, rfl, .int v, .ty "bool", _, _, false, rfl, .ty _, .base (.int v), kit_ty (by decide +kernel), rfl, _, rfl, iteNS rfl ?_⟩
        refine ⟨.int v, rfl, .int v, .ty "int", _, _, true, rfl, .ty _, .base (.int v), kit_ty (by decide +kernel), .int v, rfl, .int v, .ty "int", _, _, true, rfl, .ty _, .base (.int v), kit_ty (by decide +kernel), rfl, _, rfl, iteNS rfl ?_⟩
        refine ⟨.int v, rfl, .int v, .ty "str", _, _, false, rfl, .ty _, .base (.int v), kit_ty (by decide +kernel), .int v, rfl, .int v, .ty "str", _, _, false, rfl, .ty _, .base (.int v), kit_ty (by decide +kernel), rfl, _, rfl, iteY rfl ?_⟩
        refine ⟨.int v, rfl, .int v, rfl, rfl, ?_⟩
        show Q (.bl (decide (V.int v = V.int v))) _
        rw [decide_eq_true rfl]
        exact k _ (Same.new hp)
      | str v =>
        refine ⟨.str v, rfl, _, rfl, iteN (fun e => nomatch e) ⟨.str v, rfl, _, rfl, iteN (fun e => nomatch e) ?_⟩⟩
        refine ⟨.str v, rfl, (by show 2 ≤ sizeLine; decide), fun p hp => ⟨.str v, p, _, _, _, false, rfl, upd_same, .cons (.ty _) (.cons (.ty _) .nil), .base (.str v), kitLT (by decide +kernel) (by decide +kernel), _, rfl, iteF ?_⟩⟩
        refine ⟨.str v, rfl, .str v, .ty "bool", _, _, false, rfl, .ty _, .base (.str v), kit_ty (by decide +kernel), .str v, rfl, .str v, .ty "bool", _, _, false, rfl, .ty _, .base (.str v), kit_ty (by decide +kernel), rfl, _, rfl, iteNS rfl ?_⟩
        refine ⟨.str v, rfl, .str v, .ty "int", _, _, false, rfl, .ty _, .base (.str v), kit_ty (by decide +kernel), .str v, rfl, .str v, .ty "int", _, _, false, rfl, .ty _, .base (.str v), kit_ty (by decide +kernel), rfl, _, rfl, iteNS rfl ?_⟩
        refine ⟨.str v, rfl, .str v, .ty "str", _, _, true, rfl, .ty _, .base (.str v), kit_ty (by decide +kernel), .str v, rfl, .str v, .ty "str", _, _, true, rfl, .ty _, .base (.str v), kit_ty (by decide +kernel), rfl, _, rfl, iteY rfl ?_⟩
        refine ⟨.str v, rfl, .str v, rfl, rfl, ?_⟩
        show Q (.bl (decide (V.str v = V.str v))) _
        rw [decide_eq_true rfl]
        exact k _ (Same.new hp)
      | _ => cases hf
  | n + 1 => by
    have G_law_same : FnOk P w K mg base CX0 (n + 1) Z.a_law_same Z.d_law_same ["_law_found", "_law_due"] (sp_law_same K n) := ok_law_same T n
    refine T.F_law_same.ok sc_law_same (fun vs H Q E h => ?_) (fun cdv A outer s H vs Q E hr h => ?_)
    · obtain ⟨x, y, rfl, _⟩ := h
      rfl
    · obtain ⟨x, y, rfl, hd, k⟩ := h
      refine ⟨_, (pss_cons (ps_if (PW.pt (pw_or (pt_cmp (pc_isN (pv 1))) (pw_or1 (pt_cmp (pc_isN (pv 0)))))) (pss_one (ps_ret (pe_and (pe_cmp (pc_isN (pv 1)) rfl) (pe_one (pe_cmp (pc_isN (pv 0)) rfl))))) pss_nil)
      (pss_cons (ps_if (pt_val (pe_callB call_isiT (by rfl) T.n_isinstance boot_isinstance (pa_cons (pv 1) (pa_cons (pe_tup (pa_cons (pe_bltn (v := .ty "list") (by rfl) T.n_list boot_list rfl) (pa_cons (pe_bltn (v := .ty "tuple") (by rfl) T.n_tuple boot_tuple rfl) pa_nil))) pa_nil)))) (pss_cons (ps_if (PW.pt (pw_or (pt_cmpR op_ne (pe_callB call_isi (by rfl) T.n_isinstance boot_isinstance (pa_cons (pv 0) (pa_cons (pe_bltn (v := .ty "list") (by rfl) T.n_list boot_list rfl) pa_nil))) (pe_callB call_isi (by rfl) T.n_isinstance boot_isinstance (pa_cons (pv 1) (pa_cons (pe_bltn (v := .ty "list") (by rfl) T.n_list boot_list rfl) pa_nil))) (nomark _)) (pw_or1 (pt_cmpR op_ne (pe_callB call_isi (by rfl) T.n_isinstance boot_isinstance (pa_cons (pv 0) (pa_cons (pe_bltn (v := .ty "tuple") (by rfl) T.n_tuple boot_tuple rfl) pa_nil))) (pe_callB call_isi (by rfl) T.n_isinstance boot_isinstance (pa_cons (pv 1) (pa_cons (pe_bltn (v := .ty "tuple") (by rfl) T.n_tuple boot_tuple rfl) pa_nil))) (nomark _))))) (pss_one (ps_ret pe_bl)) pss_nil)
      (pss_one (ps_ret (pe_and (pe_cmpR op_eq (pe_callB call_len (by rfl) T.n_len boot_len (pa_cons (pv 0) pa_nil)) (pe_callB call_len (by rfl) T.n_len boot_len (pa_cons (pv 1) pa_nil)) (nomark _)) (pe_one (pe_callB (cr_all rfl) (by rfl) T.n_all boot_all (pa_cons (pe_lc (own := [("_law_a", 2), ("_law_b", 3)]) (g := gTup K 2 (gCons (gName 2) (gCons (gName 3) gNil))) (tt := tYes) rfl sc_law_same.nd (RZ.pi_zipA (by rfl) T.n_zip (pa_cons (pv 0) (pa_cons (pv 1) pa_nil))) (blkOk_by (N := N_law_same) (sc := defScope s_law_same) (by decide +kernel)) (fun _ _ _ _ _ => pg_tup rfl (pgs_cons (pg_name (i := 2) sc_law_same.nd rfl (Or.inl rfl)) (pgs_cons (pg_name (i := 3) sc_law_same.nd rfl (Or.inl rfl)) pgs_nil))) (fun _ _ _ _ _ => pts_nil) (fun _ _ _ _ _ => (pe_call G_law_same (hr.mono (by omega)) (by rfl) T.m_law_same T.F_law_same.kp T.b_law_same .nil pass0 (pa_cons (pv 2) (pa_cons (pv 3) pa_nil))))) pa_nil))))))) pss_nil)
      (pss_cons (ps_if (PW.pt (pw_or (pt_cmpR op_ne (pe_callB call_isi (by rfl) T.n_isinstance boot_isinstance (pa_cons (pv 1) (pa_cons (pe_bltn (v := .ty "bool") (by rfl) T.n_bool boot_bool rfl) pa_nil))) (pe_callB call_isi (by rfl) T.n_isinstance boot_isinstance (pa_cons (pv 0) (pa_cons (pe_bltn (v := .ty "bool") (by rfl) T.n_bool boot_bool rfl) pa_nil))) (nomark _)) (pw_or1 (pt_cmpR op_ne (pe_callB call_isi (by rfl) T.n_isinstance boot_isinstance (pa_cons (pv 1) (pa_cons (pe_bltn (v := .ty "int") (by rfl) T.n_int boot_int rfl) pa_nil))) (pe_callB call_isi (by rfl) T.n_isinstance boot_isinstance (pa_cons (pv 0) (pa_cons (pe_bltn (v := .ty "int") (by rfl) T.n_int boot_int rfl) pa_nil))) (nomark _))))) (pss_one (ps_ret pe_bl)) pss_nil)
      (pss_one (ps_ret (pe_and (pe_cmpR op_eq (pe_callB call_isi (by rfl) T.n_isinstance boot_isinstance (pa_cons (pv 1) (pa_cons (pe_bltn (v := .ty "str") (by rfl) T.n_str boot_str rfl) pa_nil))) (pe_callB call_isi (by rfl) T.n_isinstance boot_isinstance (pa_cons (pv 0) (pa_cons (pe_bltn (v := .ty "str") (by rfl) T.n_str boot_str rfl) pa_nil))) (nomark _)) (pe_one (pe_cmpR op_eq (pv 0) (pv 1) (nomark _))))))))), ?_⟩
      rcases hd with ⟨hf, rfl⟩ | ⟨a, b, xs, ys, rfl, rfl, hd, hl, hz, hi⟩
      · cases x with
        | non => exact ⟨.non, rfl, _, rfl, iteY rfl ⟨.non, rfl, _, rfl, iteY rfl ⟨.non, rfl, k _ (Same.refl _)⟩⟩⟩
        | bl v =>
          refine ⟨.bl v, rfl, _, rfl, iteN (fun e => nomatch e) ⟨.bl v, rfl, _, rfl, iteN (fun e => nomatch e) ?_⟩⟩
          refine ⟨.bl v, rfl, (by show 2 ≤ sizeLine; decide), fun p hp => ⟨.bl v, p, _, _, _, false, rfl, upd_same, .cons (.ty _) (.cons (.ty _) .nil), .base (.bl v), kitLT (by decide +kernel) (by decide +kernel), _, rfl, iteF ?_⟩⟩
          refine ⟨.bl v, rfl, .bl v, .ty "bool", _, _, true, rfl, .ty _, .base (.bl v), kit_ty (by decide +kernel), .bl v, rfl, .bl v, .ty "bool", _, _, true, rfl, .ty _, .base (.bl v), kit_ty (by decide +kernel), rfl, _, rfl, iteNS rfl ?_⟩
          refine ⟨.bl v, rfl, .bl v, .ty "int", _, _, true, rfl, .ty _, .base (.bl v), kit_ty (by decide +kernel), .bl v, rfl, .bl v, .ty "int", _, _, true, rfl, .ty _, .base (.bl v), kit_ty (by decide +kernel), rfl, _, rfl, iteNS rfl ?_⟩
          refine ⟨.bl v, rfl, .bl v, .ty "str", _, _, false, rfl, .ty _, .base (.bl v), kit_ty (by decide +kernel), .bl v, rfl, .bl v, .ty "str", _, _, false, rfl, .ty _, .base (.bl v), kit_ty (by decide +kernel), rfl, _, rfl, iteY rfl ?_⟩
          refine ⟨.bl v, rfl, .bl v, rfl, rfl, ?_⟩
          show Q (.bl (decide (V.bl v = V.bl v))) _
          rw [decide_eq_true rfl]
          exact k _ (Same.new hp)
        | int v =>
          refine ⟨.int v, rfl, _, rfl, iteN (fun e => nomatch e) ⟨.int v, rfl, _, rfl, iteN (fun e => nomatch e) ?_⟩⟩
          refine ⟨.int v, rfl, (by show 2 ≤ sizeLine; decide), fun p hp => ⟨.int v, p, _, _, _, false, rfl, upd_same, .cons (.ty _) (.cons (.ty _) .nil), .base (.int v), kitLT (by decide +kernel) (by decide +kernel), _, rfl, iteF ?_⟩⟩
          refine ⟨.int v, rfl, .int v, .ty "bool", _, _, false, rfl, .ty _, .base (.int v), kit_ty (by decide +kernel), .int v, rfl, .int v, .ty "bool", _, _, false, rfl, .ty _, .base (.int v), kit_ty (by decide +kernel), rfl, _, rfl, iteNS rfl ?_⟩
          refine ⟨.int v, rfl, .int v, .ty "int", _, _, true, rfl, .ty _, .base (.int v), kit_ty (by decide +kernel), .int v, rfl, .int v, .ty "int", _, _, true, rfl, .ty _, .base (.int v), kit_ty (by decide +kernel), rfl, _, rfl, iteNS rfl ?_⟩
          refine ⟨.int v, rfl, .int v, .ty "str", _, _, false, rfl, .ty _, .base (.int v), kit_ty (by decide +kernel), .int v, rfl, .int v, .ty "str", _, _, false, rfl, .ty _, .base (.int v), kit_ty (by decide +kernel), rfl, _, rfl, iteY rfl ?_⟩
          refine ⟨.int v, rfl, .int v, rfl, rfl, ?_⟩
          show Q (.bl (decide (V.int v = V.int v))) _
          rw [decide_eq_true rfl]
          exact k _ (Same.new hp)
        | str v =>
          refine ⟨.str v, rfl, _, rfl, iteN (fun e => nomatch e) ⟨.str v, rfl, _, rfl, iteN (fun e => nomatch e) ?_⟩⟩
          refine ⟨.str v, rfl, (by show 2 ≤ sizeLine; decide), fun p hp => ⟨.str v, p, _, _, _, false, rfl, upd_same, .cons (.ty _) (.cons (.ty _) .nil), .base (.str v), kitLT (by decide +kernel) (by decide +kernel), _, rfl, iteF ?_⟩⟩
          refine ⟨.str v, rfl, .str v, .ty "bool", _, _, false, rfl, .ty _, .base (.str v), kit_ty (by decide +kernel), .str v, rfl, .str v, .ty "bool", _, _, false, rfl, .ty _, .base (.str v), kit_ty (by decide +kernel), rfl, _, rfl, iteNS rfl ?_⟩
          refine ⟨.str v, rfl, .str v, .ty "int", _, _, false, rfl, .ty _, .base (.str v), kit_ty (by decide +kernel), .str v, rfl, .str v, .ty "int", _, _, false, rfl, .ty _, .base (.str v), kit_ty (by decide +kernel), rfl, _, rfl, iteNS rfl ?_⟩
          refine ⟨.str v, rfl, .str v, .ty "str", _, _, true, rfl, .ty _, .base (.str v), kit_ty (by decide +kernel), .str v, rfl, .str v, .ty "str", _, _, true, rfl, .ty _, .base (.str v), kit_ty (by decide +kernel), rfl, _, rfl, iteY rfl ?_⟩
          refine ⟨.str v, rfl, .str v, rfl, rfl, ?_⟩
          show Q (.bl (decide (V.str v = V.str v))) _
          rw [decide_eq_true rfl]
          exact k _ (Same.new hp)
        | _ => cases hf
      · refine ⟨.ref b, rfl, _, rfl, iteN (fun e => nomatch e) ⟨.ref a, rfl, _, rfl, iteN (fun e => nomatch e) ?_⟩⟩
        rcases hd with ⟨h1, h2⟩ | ⟨h1, h2⟩
        · refine ⟨.ref b, rfl, (by show 2 ≤ sizeLine; decide), fun p hp => ?_⟩
          have s1 : Same H (upd H p (.tup [.ty "list", .ty "tuple"])) := Same.new hp
          refine ⟨.ref b, p, _, _, _, true, rfl, upd_same, .cons (.ty _) (.cons (.ty _) .nil), tyx_l (s1.seq h2), kitLl, _, rfl, iteT ?_⟩
          generalize upd H p (.tup [.ty "list", .ty "tuple"]) = H1 at s1 ⊢
          have g1 := s1.seq h1
          have g2 := s1.seq h2
          refine ⟨.ref a, rfl, .ref a, .ty "list", _, _, true, rfl, .ty _, tyx_l g1, kit_ty (by decide +kernel), .ref b, rfl, .ref b, .ty "list", _, _, true, rfl, .ty _, tyx_l g2, kit_ty (by decide +kernel), rfl, _, rfl, iteNS rfl ?_⟩
          refine ⟨.ref a, rfl, .ref a, .ty "tuple", _, _, false, rfl, .ty _, tyx_l g1, kit_ty (by decide +kernel), .ref b, rfl, .ref b, .ty "tuple", _, _, false, rfl, .ty _, tyx_l g2, kit_ty (by decide +kernel), rfl, _, rfl, iteNS rfl ?_⟩
          refine ⟨.ref a, rfl, .ref a, _, rfl, .inl ⟨_, g1, rfl⟩, .ref b, rfl, .ref b, _, rfl, .inl ⟨_, g2, rfl⟩, rfl, _, rfl, iteY (by rw [hl]) ?_⟩
          refine ⟨.ref a, rfl, .ref b, rfl, a, b, xs, ys, rfl, .inl ⟨g1, g2, fun D hD => ?_⟩⟩
          have hD0 : H D = none := s1.free hD
          refine lc_it (walk_zip (K := K) (xs := xs) (ys := ys) (n := xs.length) (by omega)) (fun i H' => Same H H' ∧ H' D = some (.lst ((List.replicate i true).map V.bl))) ⟨Same.put s1 hD0, upd_same⟩ (fun i H' _ q => ⟨q.1.seq h1, q.1.seq h2⟩) ?_ ?_
          · rintro i v H2 H3 hi' ⟨s2, e2⟩ ⟨T, u, t, rfl, hT, rfl, hu, ht⟩
            refine ⟨T, [u, t], rfl, SqT.of upd_same, rfl, u, [t], rfl, t, [], rfl, rfl, rfl, u, rfl, t, rfl, u, t, rfl, ((hi i u t hu ht).same s2).same (Same.new hT), fun H4 s4 => ?_⟩
            have nDT : D ≠ T := ne_of_none e2 hT
            refine ⟨_, s4 _ _ (by rw [upd_ne nDT]; exact e2), ?_, (Same.put ((s2.trans (Same.new hT)).trans s4) hD0), ?_⟩
            · rw [List.length_map, List.length_replicate]
              exact Nat.lt_of_lt_of_le hi' (Nat.le_trans hz (by decide))
            · rw [upd_same, List.replicate_succ', List.map_append]
              rfl
          · rintro H' ⟨s2, e2⟩
            refine ⟨D, List.replicate xs.length true, rfl, SqL.of e2, ?_⟩
            rw [all_rep]
            exact k _ s2
        · refine ⟨.ref b, rfl, (by show 2 ≤ sizeLine; decide), fun p hp => ?_⟩
          have s1 : Same H (upd H p (.tup [.ty "list", .ty "tuple"])) := Same.new hp
          refine ⟨.ref b, p, _, _, _, true, rfl, upd_same, .cons (.ty _) (.cons (.ty _) .nil), tyx_t (Same.sqT s1 h2), kitLt, _, rfl, iteT ?_⟩
          generalize upd H p (.tup [.ty "list", .ty "tuple"]) = H1 at s1 ⊢
          have g1 := Same.sqT s1 h1
          have g2 := Same.sqT s1 h2
          refine ⟨.ref a, rfl, .ref a, .ty "list", _, _, false, rfl, .ty _, tyx_t g1, kit_ty (by decide +kernel), .ref b, rfl, .ref b, .ty "list", _, _, false, rfl, .ty _, tyx_t g2, kit_ty (by decide +kernel), rfl, _, rfl, iteNS rfl ?_⟩
          refine ⟨.ref a, rfl, .ref a, .ty "tuple", _, _, true, rfl, .ty _, tyx_t g1, kit_ty (by decide +kernel), .ref b, rfl, .ref b, .ty "tuple", _, _, true, rfl, .ty _, tyx_t g2, kit_ty (by decide +kernel), rfl, _, rfl, iteNS rfl ?_⟩
          refine ⟨.ref a, rfl, .ref a, _, rfl, .inr ⟨_, g1, rfl⟩, .ref b, rfl, .ref b, _, rfl, .inr ⟨_, g2, rfl⟩, rfl, _, rfl, iteY (by rw [hl]) ?_⟩
          refine ⟨.ref a, rfl, .ref b, rfl, a, b, xs, ys, rfl, .inr ⟨g1, g2, fun D hD => ?_⟩⟩
          have hD0 : H D = none := s1.free hD
          refine lc_it (walk_zipT (K := K) (xs := xs) (ys := ys) (n := xs.length) (by omega)) (fun i H' => Same H H' ∧ H' D = some (.lst ((List.replicate i true).map V.bl))) ⟨Same.put s1 hD0, upd_same⟩ (fun i H' _ q => ⟨Same.sqT q.1 h1, Same.sqT q.1 h2⟩) ?_ ?_
          · rintro i v H2 H3 hi' ⟨s2, e2⟩ ⟨T, u, t, rfl, hT, rfl, hu, ht⟩
            refine ⟨T, [u, t], rfl, SqT.of upd_same, rfl, u, [t], rfl, t, [], rfl, rfl, rfl, u, rfl, t, rfl, u, t, rfl, ((hi i u t hu ht).same s2).same (Same.new hT), fun H4 s4 => ?_⟩
            have nDT : D ≠ T := ne_of_none e2 hT
            refine ⟨_, s4 _ _ (by rw [upd_ne nDT]; exact e2), ?_, (Same.put ((s2.trans (Same.new hT)).trans s4) hD0), ?_⟩
            · rw [List.length_map, List.length_replicate]
              exact Nat.lt_of_lt_of_le hi' (Nat.le_trans hz (by decide))
            · rw [upd_same, List.replicate_succ', List.map_append]
              rfl
          · rintro H' ⟨s2, e2⟩
            refine ⟨D, List.replicate xs.length true, rfl, SqL.of e2, ?_⟩
            rw [all_rep]
            exact k _ s2
end

/-! ### values of every kind -/
/-- a text of ordinary size and signs -/
def StrK (z : Str) : Prop := z.cps.size ≤ 100000 ∧ ∀ c ∈ z.cps.toList, c < 1114112
/-- a value of data, n deep at most, none of whose lists is the bag -/
def Okv (K : PySem.W.Frag) (H : Hp) (b : Addr) : Nat → V → Prop
  | 0, v => flatV v = true ∧ ∀ z, v = .str z → StrK z
  | n + 1, v => (flatV v = true ∧ ∀ z, v = .str z → StrK z) ∨ ∃ (a : Addr) (xs : List V), v = .ref a ∧ a ≠ b ∧ (SqL K H a xs ∨ SqT K H a xs) ∧ xs.length ≤ 100000 ∧ ∀ x ∈ xs, Okv K H b n x
theorem Okv.stp {K : PySem.W.Frag} {H H' : Hp} {b : Addr} (s : Stp b H H') : ∀ {n : Nat} {v : V}, Okv K H b n v → Okv K H' b n v
  | 0, _, h => h
  | n + 1, _, .inl h => .inl h
  | n + 1, _, .inr ⟨a, xs, e, ne, h, hl, hx⟩ => .inr ⟨a, xs, e, ne, h.imp (s.sqL ne) (s.sqT ne), hl, fun x m => (hx x m).stp s⟩
theorem Okv.eqd {K : PySem.W.Frag} {H : Hp} {b : Addr} : ∀ {n : Nat} {v : V}, Okv K H b n v → Eqd K H n v v
  | 0, _, h => ⟨h.1, rfl⟩
  | n + 1, _, .inl h => .inl ⟨h.1, rfl⟩
  | n + 1, _, .inr ⟨a, xs, e, _, h, hl, hx⟩ => .inr ⟨a, a, xs, xs, e, e, h.imp (fun q => ⟨q, q⟩) (fun q => ⟨q, q⟩), rfl, hl, fun i u v hu hv => by
      rw [hu] at hv
      cases hv
      exact (hx u (List.mem_of_getElem? hu)).eqd⟩
theorem Okv.of_flat {K : PySem.W.Frag} {H : Hp} {b : Addr} {n : Nat} {v : V} (h : flatV v = true) (hz : ∀ z, v = .str z → StrK z) : Okv K H b n v := by
  cases n with
  | zero => exact ⟨h, hz⟩
  | succ n => exact .inl ⟨h, hz⟩
theorem Okv.non {K : PySem.W.Frag} {H : Hp} {b : Addr} {n : Nat} : Okv K H b n .non := .of_flat rfl (fun _ e => nomatch e)
theorem Okv.bl {K : PySem.W.Frag} {H : Hp} {b : Addr} {n : Nat} {k : Bool} : Okv K H b n (.bl k) := .of_flat rfl (fun _ e => nomatch e)
theorem Okv.int {K : PySem.W.Frag} {H : Hp} {b : Addr} {n : Nat} {i : Int} : Okv K H b n (.int i) := .of_flat rfl (fun _ e => nomatch e)
theorem Okv.str {K : PySem.W.Frag} {H : Hp} {b : Addr} {n : Nat} {z : Str} (h : StrK z) : Okv K H b n (.str z) := .of_flat rfl (fun _ e => by cases e; exact h)
/-- what kind it is -/
def isS : V → Bool
  | .str _ => true
  | _ => false
def isB : V → Bool
  | .bl _ => true
  | _ => false
def isI : V → Bool
  | .int _ => true
  | .bl _ => true
  | _ => false
theorem Okv.ty {K : PySem.W.Frag} {H : Hp} {b : Addr} {n : Nat} {v : V} (h : Okv K H b n v) : ∃ t, TyX K H v t ∧ PySem.W.kitOne K t (.type "str") = some (isS v) ∧ PySem.W.kitOne K t (.type "bool") = some (isB v) ∧ PySem.W.kitOne K t (.type "int") = some (isI v) := by
  have fl : flatV v = true → ∃ t, TyX K H v t ∧ PySem.W.kitOne K t (.type "str") = some (isS v) ∧ PySem.W.kitOne K t (.type "bool") = some (isB v) ∧ PySem.W.kitOne K t (.type "int") = some (isI v) := fun hf => by
    cases v with
    | non => exact ⟨_, .base .non, kit_ty (by decide +kernel), kit_ty (by decide +kernel), kit_ty (by decide +kernel)⟩
    | bl k => exact ⟨_, .base (.bl k), kit_ty (show kitB "bool" "str" = some false by decide +kernel), kit_ty (show kitB "bool" "bool" = some true by decide +kernel), kit_ty (show kitB "bool" "int" = some true by decide +kernel)⟩
    | int i => exact ⟨_, .base (.int i), kit_ty (show kitB "int" "str" = some false by decide +kernel), kit_ty (show kitB "int" "bool" = some false by decide +kernel), kit_ty (show kitB "int" "int" = some true by decide +kernel)⟩
    | str z => exact ⟨_, .base (.str z), kit_ty (show kitB "str" "str" = some true by decide +kernel), kit_ty (show kitB "str" "bool" = some false by decide +kernel), kit_ty (show kitB "str" "int" = some false by decide +kernel)⟩
    | _ => cases hf
  cases n with
  | zero => exact fl h.1
  | succ n =>
    rcases h with h | ⟨a, xs, rfl, _, h | h, _⟩
    · exact fl h.1
    · exact ⟨_, tyx_l h, kit_ty (show kitB "list" "str" = some false by decide +kernel), kit_ty (show kitB "list" "bool" = some false by decide +kernel), kit_ty (show kitB "list" "int" = some false by decide +kernel)⟩
    · exact ⟨_, tyx_t h, kit_ty (show kitB "tuple" "str" = some false by decide +kernel), kit_ty (show kitB "tuple" "bool" = some false by decide +kernel), kit_ty (show kitB "tuple" "int" = some false by decide +kernel)⟩
theorem Okv.strK {K : PySem.W.Frag} {H : Hp} {b : Addr} {n : Nat} {z : Str} (h : Okv K H b n (.str z)) : StrK z := by
  cases n with
  | zero => exact h.2 z rfl
  | succ n =>
    rcases h with h | ⟨a, xs, e, _⟩
    · exact h.2 z rfl
    · cases e
theorem Okv.short {K : PySem.W.Frag} {H : Hp} {b : Addr} {n : Nat} {z : Str} (h : Okv K H b n (.str z)) : z.cps.size ≤ 100000 := h.strK.1
theorem isS_of {v : V} (h : isS v = true) : ∃ z, v = .str z := by
  cases v with
  | str z => exact ⟨z, rfl⟩
  | _ => cases h
/-! ### names and numbers, as plain functions -/
def inL (c : Nat) : Bool := decide (97 ≤ c) && decide (c ≤ 122)
def nmV : V → Bool
  | .str z => decide (1 ≤ z.cps.size) && decide (z.cps.size ≤ 6) && z.cps.toList.all inL
  | _ => false
def numV (v : V) (lo hi : Int) : Bool := match v with
  | .int i => decide (lo ≤ i) && decide (i ≤ hi)
  | _ => false
def regs : List V := [.str "r0", .str "r1", .str "r2"]
def regV (v : V) : Bool := isS v && inV v regs
theorem lt_sign (c d : Nat) : (([c] : List Nat) < [d]) ↔ c < d := by
  constructor
  · intro h
    cases h with
    | rel h => exact h
    | cons h => cases h
  · intro h
    exact .rel h
theorem le_sign (c d : Nat) : (!decide (([c] : List Nat) < [d])) = decide (d ≤ c) := by
  rw [Bool.eq_iff_iff]
  simp [lt_sign]
theorem cps_a : ("a" : Str).cps.toList = [97] := by decide +kernel
theorem cps_z : ("z" : Str).cps.toList = [122] := by decide +kernel
theorem cps_abc : ("abcdefghijklmnopqrstuvwxyz" : Str).cps.toList = List.range' 97 26 := by decide +kernel
theorem in_abc (c : Nat) : decide (c ∈ ("abcdefghijklmnopqrstuvwxyz" : Str).cps.toList) = inL c := by
  rw [cps_abc, Bool.eq_iff_iff]
  simp [inL, List.mem_range'_1]
  omega
/-- what holds of each answer, told ahead: any extension, then the answer -/
theorem take_snoc {α β : Type} (f : α → β) {l : List α} {i : Nat} {x : α} (h : l[i]? = some x) : (l.take (i + 1)).map f = (l.take i).map f ++ [f x] := by
  rw [List.take_add_one, h, List.map_append]
  rfl

section
variable {P : Program} {w : World} {K : PySem.W.Frag} {mg : Str → Option Value} {base : Heap} {Z : Fs}
/-! ### is_name -/
def sp_is_name (K : PySem.W.Frag) : Sp := fun vs H Q _ => ∃ (v : V) (b : Addr) (n : Nat), vs = [v] ∧ Okv K H b n v ∧ ∀ H' : Hp, Same H H' → Q (.bl (nmV v)) H'
theorem ok_is_name (T : Txt K w mg Z) : FnOk P w K mg base CX0 1 Z.a_is_name Z.d_is_name ["value"] (sp_is_name K) := by
  refine T.F_is_name.ok sc_is_name (fun vs H Q E h => ?_) (fun cdv A outer s H vs Q E hr h => ?_)
  · obtain ⟨v, b, n, rfl, _⟩ := h
    rfl
  · obtain ⟨v, b, n, rfl, ok, k⟩ := h
    refine ⟨_, (pss_cons (ps_if (PW.pt (pw_or (pt_not (pt_val (pe_callB call_isi (by rfl) T.n_isinstance boot_isinstance (pa_cons (pv 0) (pa_cons (pe_bltn (v := .ty "str") (by rfl) T.n_str boot_str rfl) pa_nil))))) (pw_or1 (pt_not (pt_chain op_le op_le pe_int (pe_callB call_len (by rfl) T.n_len boot_len (pa_cons (pv 0) pa_nil)) (pe_glob (v := .int 6) (by rfl) (Classical.choose_spec T.g_MOST_LETTERS) ⟨_, rfl⟩)))))) (pss_one (ps_ret pe_bl)) pss_nil)
      (pss_one (ps_ret (pe_callB (cr_all rfl) (by rfl) T.n_all boot_all (pa_cons (pe_lc (own := [("letter", 1)]) (g := gName 1) (tt := tYes) rfl sc_is_name.nd (pi_str (pv 0)) (blkOk_by (N := N_is_name) (sc := defScope s_is_name) (by decide +kernel)) (fun _ _ _ _ _ => pg_name (i := 1) sc_is_name.nd rfl (Or.inl rfl)) (fun _ _ _ _ _ => pts_nil) (fun _ _ _ _ _ => (pe_chain op_le_str op_le_str pe_str (pv 1) pe_str))) pa_nil))))), ?_⟩
    obtain ⟨t, ty, kS, _, _⟩ := ok.ty
    refine ⟨v, rfl, v, .ty "str", t, _, _, rfl, .ty _, ty, kS, _, rfl, ?_⟩
    cases hv : isS v with
    | false =>
      refine iteT ?_
      have e : nmV v = false := by
        cases v with
        | str z => cases hv
        | _ => rfl
      show Q (.bl false) H
      rw [← e]
      exact k _ (Same.refl _)
    | true =>
      obtain ⟨z, rfl⟩ := isS_of hv
      refine iteF ?_
      refine ⟨.str z, rfl, .str z, z.cps.size, rfl, ⟨Nat.le_trans ok.short (by decide), rfl⟩, _, _, rfl, rfl, _, rfl, ite2 (fun h1 => ?_) (fun h1 => ?_)⟩
      · have h1' : 1 ≤ z.cps.size := by
          have q := of_decide_eq_true h1
          omega
        refine ⟨_, _, rfl, rfl, _, rfl, ?_⟩
        refine ite2 (fun h2 => ?_) (fun h2 => ?_)
        · have e : nmV (.str z) = false := by
            have q : ¬ z.cps.size ≤ 6 := by
              simp at h2
              omega
            simp [nmV, q]
          show Q (.bl false) H
          rw [← e]
          exact k _ (Same.refl _)
        · have q : z.cps.size ≤ 6 := by
            simp at h2
            omega
          refine ⟨.str z, rfl, z, rfl, fun D hD => ?_⟩
          refine lc_it (walk_str (z := z)) (fun i H' => Same H H' ∧ H' D = some (.lst (((z.cps.toList.take i).map inL).map V.bl))) ⟨Same.new hD, upd_same⟩ (fun _ _ _ _ => True.intro) ?_ ?_
          · rintro i v H2 H3 hi ⟨s2, e2⟩ ⟨rfl, c, hc, rfl⟩
            have hc' : z.cps.toList[i]? = some c := by simpa using hc
            refine ⟨rfl, .str ⟨#[c]⟩, rfl, "a", ⟨#[c]⟩, rfl, rfl, _, rfl, ite2 (fun h3 => ?_) (fun h3 => ?_)⟩
            · refine ⟨⟨#[c]⟩, "z", rfl, rfl, _, e2, ?_, Same.put s2 hD, ?_⟩
              · rw [List.length_map, List.length_map, List.length_take]
                exact Nat.lt_of_le_of_lt (Nat.min_le_left _ _) (Nat.lt_of_lt_of_le hi (Nat.le_trans ok.short (by decide)))
              · rw [upd_same, take_snoc inL hc', List.map_append]
                rw [cps_a, le_sign] at h3
                rw [cps_z]
                have e : (!decide (([122] : List Nat) < (⟨#[c]⟩ : Str).cps.toList)) = inL c := by
                  show (!decide (([122] : List Nat) < [c])) = inL c
                  rw [le_sign]
                  simp only [inL]
                  rw [h3]
                  rfl
                rw [e]
                rfl
            · refine ⟨_, e2, ?_, Same.put s2 hD, ?_⟩
              · rw [List.length_map, List.length_map, List.length_take]
                exact Nat.lt_of_le_of_lt (Nat.min_le_left _ _) (Nat.lt_of_lt_of_le hi (Nat.le_trans ok.short (by decide)))
              · rw [upd_same, take_snoc inL hc', List.map_append]
                rw [cps_a, le_sign] at h3
                have e : false = inL c := by
                  have h4 : decide (97 ≤ c) = false := by simpa using h3
                  simp only [inL]
                  rw [h4]
                  rfl
                rw [← e]
                rfl
          · rintro H' ⟨s2, e2⟩
            refine ⟨D, _, rfl, SqL.of e2, ?_⟩
            have e : ((z.cps.toList.take z.cps.size).map inL).all id = nmV (.str z) := by
              rw [List.take_of_length_le (by simp)]
              simp [nmV, h1', q, List.all_map]
            rw [e]
            exact k _ s2
      · refine ⟨_, rfl, iteT ?_⟩
        have e : nmV (.str z) = false := by
          have q : ¬ 1 ≤ z.cps.size := fun q => h1 (decide_eq_true (by omega))
          simp [nmV, q]
        show Q (.bl false) H
        rw [← e]
        exact k _ (Same.refl _)
end

section
variable {P : Program} {w : World} {K : PySem.W.Frag} {mg : Str → Option Value} {base : Heap} {Z : Fs}
def sp_is_number (K : PySem.W.Frag) : Sp := fun vs H Q _ => ∃ (v : V) (lo hi : Int) (b : Addr) (n : Nat), vs = [v, .int lo, .int hi] ∧ Okv K H b n v ∧ ∀ H' : Hp, Same H H' → Q (.bl (numV v lo hi)) H'
theorem ok_is_number (T : Txt K w mg Z) : FnOk P w K mg base CX0 1 Z.a_is_number Z.d_is_number ["value", "least", "most"] (sp_is_number K) := by
  refine T.F_is_number.ok sc_is_number (fun vs H Q E h => ?_) (fun cdv A outer s H vs Q E hr h => ?_)
  · obtain ⟨v, lo, hi, b, n, rfl, _⟩ := h
    rfl
  · obtain ⟨v, lo, hi, b, n, rfl, ok, k⟩ := h
    refine ⟨_, (pss_cons (ps_if (PW.pt (pw_or (pt_val (pe_callB call_isi (by rfl) T.n_isinstance boot_isinstance (pa_cons (pv 0) (pa_cons (pe_bltn (v := .ty "bool") (by rfl) T.n_bool boot_bool rfl) pa_nil)))) (pw_or1 (pt_not (pt_val (pe_callB call_isi (by rfl) T.n_isinstance boot_isinstance (pa_cons (pv 0) (pa_cons (pe_bltn (v := .ty "int") (by rfl) T.n_int boot_int rfl) pa_nil)))))))) (pss_one (ps_ret pe_bl)) pss_nil)
      (pss_one (ps_ret (pe_chain op_le op_le (pv 1) (pv 0) (pv 2))))), ?_⟩
    obtain ⟨t, ty, _, kB, kI⟩ := ok.ty
    refine ⟨v, rfl, v, .ty "bool", t, _, _, rfl, .ty _, ty, kB, _, rfl, ?_⟩
    have no : (∀ i, v ≠ .int i) → Q (.bl false) H := fun hn => by
      have e : numV v lo hi = false := by
        cases v with
        | int i => exact absurd rfl (hn i)
        | _ => rfl
      rw [← e]
      exact k _ (Same.refl _)
    cases hb : isB v with
    | true =>
      refine iteT (iteT (no fun i e => ?_))
      rw [e] at hb
      cases hb
    | false =>
      refine iteF ?_
      refine ⟨v, rfl, v, .ty "int", t, _, _, rfl, .ty _, ty, kI, _, rfl, ?_⟩
      cases hi' : isI v with
      | false =>
        refine iteT (no fun i e => ?_)
        rw [e] at hi'
        cases hi'
      | true =>
        refine iteF ?_
        obtain ⟨i, rfl⟩ : ∃ i, v = .int i := by
          cases v with
          | int i => exact ⟨i, rfl⟩
          | bl _ => cases hb
          | _ => cases hi'
        refine ⟨.int lo, rfl, .int i, rfl, _, _, rfl, rfl, _, rfl, ite2 (fun h1 => ?_) (fun h1 => ?_)⟩
        · refine ⟨.int hi, rfl, _, _, rfl, rfl, ?_⟩
          have e : numV (.int i) lo hi = decide (i ≤ hi) := by simp [numV, of_decide_eq_true h1]
          show Q (.bl (decide (i ≤ hi))) H
          rw [← e]
          exact k _ (Same.refl _)
        · have e : numV (.int i) lo hi = false := by
            have q : ¬ lo ≤ i := fun q => h1 (decide_eq_true q)
            simp [numV, q]
          show Q (.bl false) H
          rw [← e]
          exact k _ (Same.refl _)
end

section
variable {P : Program} {w : World} {K : PySem.W.Frag} {mg : Str → Option Value} {base : Heap} {Z : Fs}
def sp_is_word (K : PySem.W.Frag) : Sp := fun vs H Q _ => ∃ (v : V) (b : Addr) (n : Nat), vs = [v] ∧ Okv K H b n v ∧ ∀ H' : Hp, Same H H' → Q (.bl (numV v 0 65535)) H'
theorem ok_is_word (T : Txt K w mg Z) : FnOk P w K mg base CX0 2 Z.a_is_word Z.d_is_word ["value"] (sp_is_word K) := by
  have G_is_number : FnOk P w K mg base CX0 1 Z.a_is_number Z.d_is_number ["value", "least", "most"] (sp_is_number K) := ok_is_number T
  refine T.F_is_word.ok sc_is_word (fun vs H Q E h => ?_) (fun cdv A outer s H vs Q E hr h => ?_)
  · obtain ⟨v, b, n, rfl, _⟩ := h
    rfl
  · obtain ⟨v, b, n, rfl, ok, k⟩ := h
    refine ⟨_, (pss_one (ps_ret (pe_call G_is_number (hr.mono (by omega)) (by rfl) T.m_is_number T.F_is_number.kp T.b_is_number .nil pass0 (pa_cons (pv 0) (pa_cons pe_int (pa_cons (pe_glob (v := .int 65535) (by rfl) (Classical.choose_spec T.g_MOST_WORD) ⟨_, rfl⟩) pa_nil)))))), ?_⟩
    exact ⟨v, rfl, v, 0, 65535, b, n, rfl, ok, k⟩
end

section
variable {P : Program} {w : World} {K : PySem.W.Frag} {mg : Str → Option Value} {base : Heap} {Z : Fs}
def sp_is_register (K : PySem.W.Frag) : Sp := fun vs H Q _ => ∃ (v : V) (b : Addr) (n : Nat), vs = [v] ∧ Okv K H b n v ∧ ∀ H' : Hp, Same H H' → Q (.bl (regV v)) H'
theorem ok_is_register (T : Txt K w mg Z) : FnOk P w K mg base CX0 1 Z.a_is_register Z.d_is_register ["value"] (sp_is_register K) := by
  refine T.F_is_register.ok sc_is_register (fun vs H Q E h => ?_) (fun cdv A outer s H vs Q E hr h => ?_)
  · obtain ⟨v, b, n, rfl, _⟩ := h
    rfl
  · obtain ⟨v, b, n, rfl, ok, k⟩ := h
    refine ⟨_, (pss_one (ps_ret (pe_and (pe_callB call_isi (by rfl) T.n_isinstance boot_isinstance (pa_cons (pv 0) (pa_cons (pe_bltn (v := .ty "str") (by rfl) T.n_str boot_str rfl) pa_nil))) (pe_one (pe_cmpR (op_in_seq : OpR _ _ (rIn K false)) (pv 0) (pe_glob (v := .ref Z.c_REGISTERS) (by rfl) T.g_REGISTERS rfl) (by rfl)))))), ?_⟩
    obtain ⟨t, ty, kS, _, _⟩ := ok.ty
    refine ⟨v, rfl, v, .ty "str", t, _, _, rfl, .ty _, ty, kS, _, rfl, ?_⟩
    cases hv : isS v with
    | false =>
      refine iteF ?_
      have e : regV v = false := by simp [regV, hv]
      rw [← e]
      exact k _ (Same.refl _)
    | true =>
      refine iteT ?_
      obtain ⟨z, rfl⟩ := isS_of hv
      refine ⟨.str z, rfl, _, regs, rfl, .inr (T.v_REGISTERS H), rfl, rfl, ?_⟩
      have e : regV (.str z) = inV (.str z) regs := by simp [regV, isS]
      show Q (.bl (inV (.str z) regs)) H
      rw [← e]
      exact k _ (Same.refl _)
end

theorem eqv_nil : PyData.eqv (.list []) (.list []) = true := by decide +kernel
theorem eqv_cons (d : PyData) (ds : List PyData) : PyData.eqv (.list (d :: ds)) (.list []) = false := by rfl
theorem dp_strs {K : PySem.W.Frag} {H : Hp} : ∀ l : List Nat, DpAll K H (l.map fun c => V.str ⟨#[c]⟩) (l.map fun c => PyData.str ⟨#[c]⟩)
  | [] => .nil
  | c :: l => .cons (.str _) (dp_strs l)
theorem lay_strs : ∀ l : List Nat, (∀ c ∈ l, c < 1114112) → PyData.canLayAll0 (l.map fun c => PyData.str ⟨#[c]⟩) = true
  | [], _ => by simp [PyData.canLayAll0]
  | c :: l, h => by
    have h1 := h c (List.mem_cons_self ..)
    have h2 := lay_strs l fun d m => h d (List.mem_cons_of_mem _ m)
    simp [PyData.canLayAll0, PyData.canLay0, PyData.strOk, h1, h2]
theorem dep_strs : ∀ l : List Nat, PyData.depthAll (l.map fun c => PyData.str ⟨#[c]⟩) ≤ 1
  | [] => by simp [PyData.depthAll]
  | c :: l => by
    have h2 := dep_strs l
    simp [PyData.depthAll, PyData.depth]
    omega
theorem shaped_strs {l : List Nat} (h : ∀ c ∈ l, c < 1114112) : SeqAt.shaped (.list (l.map fun c => PyData.str ⟨#[c]⟩)) = true := by
  have h1 := lay_strs l h
  have h2 := dep_strs l
  simp [SeqAt.shaped, PyData.canLay0, PyData.depth, h1]
  omega
section
variable {P : Program} {w : World} {K : PySem.W.Frag} {mg : Str → Option Value} {base : Heap} {Z : Fs}
def sp_law_is_title (K : PySem.W.Frag) : Sp := fun vs H Q _ => ∃ (v : V) (b : Addr) (n : Nat), vs = [v] ∧ Okv K H b n v ∧ ∀ H' : Hp, Same H H' → Q (.bl (nmV v)) H'
theorem ok_law_is_title (T : Txt K w mg Z) : FnOk P w K mg base CX0 1 Z.a_law_is_title Z.d_law_is_title ["_law_thing"] (sp_law_is_title K) := by
  refine T.F_law_is_title.ok sc_law_is_title (fun vs H Q E h => ?_) (fun cdv A outer s H vs Q E hr h => ?_)
  · obtain ⟨v, b, n, rfl, _⟩ := h
    rfl
  · obtain ⟨v, b, n, rfl, ok, k⟩ := h
    refine ⟨_, (pss_cons (ps_if (PW.pt (pw_or (pt_not (pt_val (pe_callB call_isi (by rfl) T.n_isinstance boot_isinstance (pa_cons (pv 0) (pa_cons (pe_bltn (v := .ty "str") (by rfl) T.n_str boot_str rfl) pa_nil))))) (pw_or (pt_cmpR op_lt (pe_callB call_len (by rfl) T.n_len boot_len (pa_cons (pv 0) pa_nil)) pe_int (nomark _)) (pw_or1 (pt_cmpR op_gt (pe_callB call_len (by rfl) T.n_len boot_len (pa_cons (pv 0) pa_nil)) pe_int (nomark _)))))) (pss_one (ps_ret pe_bl)) pss_nil)
      (pss_one (ps_ret (pe_cmpR (op_eqD hr.units) (pe_lc (own := [("_law_sign", 1)]) (g := gName 1) rfl sc_law_is_title.nd (pi_str (pv 0)) (blkOk_by (N := N_law_is_title) (sc := defScope s_law_is_title) (by decide +kernel)) (fun _ _ _ _ _ => pg_name (i := 1) sc_law_is_title.nd rfl (Or.inl rfl)) (fun _ _ _ _ _ => pts_one (pt_cmpR op_notIn_sign (pv 1) pe_str rfl)) (fun _ _ _ _ _ => (pv 1))) (pe_lst pa_nil) (nomark _))))), ?_⟩
    obtain ⟨t, ty, kS, _, _⟩ := ok.ty
    refine ⟨v, rfl, v, .ty "str", t, _, _, rfl, .ty _, ty, kS, _, rfl, ?_⟩
    cases hv : isS v with
    | false =>
      refine iteT (iteT ?_)
      have e : nmV v = false := by
        cases v with
        | str z => cases hv
        | _ => rfl
      rw [← e]
      exact k _ (Same.refl _)
    | true =>
      obtain ⟨z, rfl⟩ := isS_of hv
      refine iteF ?_
      refine ⟨.str z, rfl, .str z, z.cps.size, rfl, ⟨Nat.le_trans ok.short (by decide), rfl⟩, _, _, rfl, rfl, _, rfl, ite2 (fun h1 => ?_) (fun h1 => ?_)⟩
      · have e : nmV (.str z) = false := by
          have q : ¬ 1 ≤ z.cps.size := fun q => by
            have q2 := of_decide_eq_true h1
            omega
          simp [nmV, q]
        refine iteT ?_
        rw [← e]
        exact k _ (Same.refl _)
      · have h1' : 1 ≤ z.cps.size := by
          have q : ¬ ((z.cps.size : Int) < 1) := fun q => h1 (decide_eq_true q)
          omega
        refine ⟨.str z, rfl, .str z, z.cps.size, rfl, ⟨Nat.le_trans ok.short (by decide), rfl⟩, _, _, rfl, rfl, _, rfl, ite2 (fun h2 => ?_) (fun h2 => ?_)⟩
        · have e : nmV (.str z) = false := by
            have q : ¬ z.cps.size ≤ 6 := fun q => by
              have q2 := of_decide_eq_true h2
              omega
            simp [nmV, q]
          show Q (.bl false) H
          rw [← e]
          exact k _ (Same.refl _)
        · have h2' : z.cps.size ≤ 6 := by
            have q : ¬ ((6 : Int) < z.cps.size) := fun q => h2 (decide_eq_true q)
            omega
          refine ⟨.str z, rfl, z, rfl, fun D hD => ?_⟩
          refine lc_it (walk_str (z := z)) (fun i H' => Same H H' ∧ H' D = some (.lst (((z.cps.toList.take i).filter fun c => !inL c).map fun c => V.str ⟨#[c]⟩))) ⟨Same.new hD, upd_same⟩ (fun _ _ _ _ => True.intro) ?_ ?_
          · rintro i v H2 H3 hi ⟨s2, e2⟩ ⟨rfl, c, hc, rfl⟩
            have hc' : z.cps.toList[i]? = some c := by simpa using hc
            refine ⟨rfl, .str ⟨#[c]⟩, rfl, c, _, rfl, rfl, _, rfl, ?_⟩
            rw [in_abc]
            cases hq : inL c with
            | false =>
              refine iteT ⟨_, rfl, _, e2, ?_, Same.put s2 hD, ?_⟩
              · rw [List.length_map]
                exact Nat.lt_of_le_of_lt (List.length_filter_le _ _) (Nat.lt_of_le_of_lt (List.length_take_le _ _) (Nat.lt_of_lt_of_le hi (Nat.le_trans ok.short (by decide))))
              · rw [upd_same, List.take_add_one, hc', List.filter_append, List.map_append]
                simp [hq]
            | true =>
              refine iteF ⟨s2, ?_⟩
              rw [e2, List.take_add_one, hc', List.filter_append, List.map_append]
              simp [hq]
          · rintro H' ⟨s2, e2⟩
            refine ⟨Nat.zero_le _, fun p hp => ?_⟩
            have nDp : D ≠ p := ne_of_none e2 hp
            refine ⟨.list _, .list [], .lst (SqL.of (by rw [upd_ne nDp]; exact e2)) (dp_strs _), .lst (SqL.of upd_same) .nil, shaped_strs (fun c m => ok.strK.2 c (List.mem_of_mem_take (List.mem_filter.mp m).1)), rfl, ?_⟩
            have e : PyData.eqv (.list (((z.cps.toList.take z.cps.size).filter fun c => !inL c).map fun c => PyData.str ⟨#[c]⟩)) (.list []) = nmV (.str z) := by
              rw [List.take_of_length_le (by simp)]
              have hn : nmV (.str z) = z.cps.toList.all inL := by simp [nmV, h1', h2']
              rw [hn]
              cases hf : (z.cps.toList.filter fun c => !inL c) with
              | nil =>
                rw [List.filter_eq_nil_iff] at hf
                have ha : z.cps.toList.all inL = true := by
                  rw [List.all_eq_true]
                  intro c hc
                  have q := hf c hc
                  simpa using q
                rw [ha]
                exact eqv_nil
              | cons c r =>
                have hm : c ∈ z.cps.toList.filter fun c => !inL c := by
                  rw [hf]
                  exact List.mem_cons_self ..
                rw [List.mem_filter] at hm
                have ha : z.cps.toList.all inL = false := by
                  rw [List.all_eq_false]
                  exact ⟨c, hm.1, by simpa using hm.2⟩
                rw [ha]
                exact eqv_cons _ _
            rw [e]
            exact k _ (s2.trans (Same.new hp))
end

section
variable {P : Program} {w : World} {K : PySem.W.Frag} {mg : Str → Option Value} {base : Heap} {Z : Fs}
def sp_law_within (K : PySem.W.Frag) : Sp := fun vs H Q _ => ∃ (v : V) (lo hi : Int) (b : Addr) (n : Nat), vs = [v, .int lo, .int hi] ∧ Okv K H b n v ∧ ∀ H' : Hp, Same H H' → Q (.bl (numV v lo hi)) H'
theorem ok_law_within (T : Txt K w mg Z) : FnOk P w K mg base CX0 1 Z.a_law_within Z.d_law_within ["_law_thing", "_law_low_y", "_law_high_y"] (sp_law_within K) := by
  refine T.F_law_within.ok sc_law_within (fun vs H Q E h => ?_) (fun cdv A outer s H vs Q E hr h => ?_)
  · obtain ⟨v, lo, hi, b, n, rfl, _⟩ := h
    rfl
  · obtain ⟨v, lo, hi, b, n, rfl, ok, k⟩ := h
    refine ⟨_, (pss_one (ps_ret (pe_and (pe_callB call_isi (by rfl) T.n_isinstance boot_isinstance (pa_cons (pv 0) (pa_cons (pe_bltn (v := .ty "int") (by rfl) T.n_int boot_int rfl) pa_nil))) (pe_and (pe_not (pe_callB call_isi (by rfl) T.n_isinstance boot_isinstance (pa_cons (pv 0) (pa_cons (pe_bltn (v := .ty "bool") (by rfl) T.n_bool boot_bool rfl) pa_nil)))) (pe_and (pe_cmpR op_le (pv 1) (pv 0) (nomark _)) (pe_one (pe_cmpR op_le (pv 0) (pv 2) (nomark _)))))))), ?_⟩
    obtain ⟨t, ty, _, kB, kI⟩ := ok.ty
    have no : (∀ i, v ≠ .int i) → Q (.bl false) H := fun hn => by
      have e : numV v lo hi = false := by
        cases v with
        | int i => exact absurd rfl (hn i)
        | _ => rfl
      rw [← e]
      exact k _ (Same.refl _)
    refine ⟨v, rfl, v, .ty "int", t, _, _, rfl, .ty _, ty, kI, _, rfl, ?_⟩
    cases hi' : isI v with
    | false =>
      refine iteF (no fun i e => ?_)
      rw [e] at hi'
      cases hi'
    | true =>
      refine iteT ?_
      refine ⟨v, rfl, v, .ty "bool", t, _, _, rfl, .ty _, ty, kB, _, rfl, _, rfl, ?_⟩
      cases hb : isB v with
      | true =>
        refine iteF (no fun i e => ?_)
        rw [e] at hb
        cases hb
      | false =>
        refine iteT ?_
        obtain ⟨i, rfl⟩ : ∃ i, v = .int i := by
          cases v with
          | int i => exact ⟨i, rfl⟩
          | bl _ => cases hb
          | _ => cases hi'
        refine ⟨.int lo, rfl, .int i, rfl, _, _, rfl, rfl, _, rfl, ite2 (fun h1 => ?_) (fun h1 => ?_)⟩
        · refine ⟨.int i, rfl, .int hi, rfl, _, _, rfl, rfl, ?_⟩
          have e : numV (.int i) lo hi = decide (i ≤ hi) := by simp [numV, of_decide_eq_true h1]
          show Q (.bl (decide (i ≤ hi))) H
          rw [← e]
          exact k _ (Same.refl _)
        · have e : numV (.int i) lo hi = false := by
            have q : ¬ lo ≤ i := fun q => h1 (decide_eq_true q)
            simp [numV, q]
          rw [← e]
          exact k _ (Same.refl _)
end

/-! ### texts of drawn signs -/
theorem joinL_ones : ∀ cs : List Nat, TL.joinL [] (cs.map fun c => [c]) = cs
  | [] => rfl
  | [_] => rfl
  | c :: d :: r => by
    show [c] ++ ([] ++ TL.joinL [] ((d :: r).map fun c => [c])) = c :: d :: r
    rw [joinL_ones (d :: r)]
    rfl
theorem join_ones (cs : List Nat) : Txt.join ("" : Str) (cs.map fun c => (⟨#[c]⟩ : Str)) = ⟨cs.toArray⟩ := by
  have e : ("" : Str) = SX.S [] := by decide +kernel
  have e2 : (cs.map fun c => (⟨#[c]⟩ : Str)) = (cs.map fun c => [c]).map SX.S := by
    rw [List.map_map]
    rfl
  rw [e, e2, SX.join_S, joinL_ones]
theorem len_ones : ∀ cs : List Nat, ((cs.map fun c => (⟨#[c]⟩ : Str)).map (·.length)).sum = cs.length
  | [] => rfl
  | c :: r => by
    rw [List.map_cons, List.map_cons, List.sum_cons, len_ones r, List.length_cons]
    show 1 + r.length = r.length + 1
    omega
theorem strK_of {cs : List Nat} (hl : cs.length ≤ 100000) (h : ∀ c ∈ cs, c < 1114112) : StrK (⟨cs.toArray⟩ : Str) := ⟨by simpa using hl, by simpa using h⟩
theorem Eqd.lists {K : PySem.W.Frag} {H : Hp} {a b : Addr} {xs : List V} {n : Nat} (h1 : SqL K H a xs) (h2 : SqL K H b xs) (hl : xs.length ≤ 100000) (hf : ∀ x ∈ xs, Eqd K H n x x) : Eqd K H (n + 1) (.ref a) (.ref b) :=
  .inr ⟨a, b, xs, xs, rfl, rfl, .inl ⟨h1, h2⟩, rfl, hl, fun i u v hu hv => by
    rw [hu] at hv
    cases hv
    exact hf u (List.mem_of_getElem? hu)⟩
theorem Eqd.tups {K : PySem.W.Frag} {H : Hp} {a b : Addr} {xs : List V} {n : Nat} (h1 : SqT K H a xs) (h2 : SqT K H b xs) (hl : xs.length ≤ 100000) (hf : ∀ x ∈ xs, Eqd K H n x x) : Eqd K H (n + 1) (.ref a) (.ref b) :=
  .inr ⟨a, b, xs, xs, rfl, rfl, .inr ⟨h1, h2⟩, rfl, hl, fun i u v hu hv => by
    rw [hu] at hv
    cases hv
    exact hf u (List.mem_of_getElem? hu)⟩
/-- a flat value is what it is in any heap -/
theorem Okv.lst0 {K : PySem.W.Frag} {H : Hp} {b a : Addr} {n : Nat} {xs : List V} (ne : a ≠ b) (h : SqL K H a xs) (hl : xs.length ≤ 100000) (hx : ∀ x ∈ xs, Okv K H b n x) : Okv K H b (n + 1) (.ref a) := .inr ⟨a, xs, rfl, ne, .inl h, hl, hx⟩
theorem Okv.tup0 {K : PySem.W.Frag} {H : Hp} {b a : Addr} {n : Nat} {xs : List V} (ne : a ≠ b) (h : SqT K H a xs) (hl : xs.length ≤ 100000) (hx : ∀ x ∈ xs, Okv K H b n x) : Okv K H b (n + 1) (.ref a) := .inr ⟨a, xs, rfl, ne, .inr h, hl, hx⟩
theorem mem1 {α : Type} {P : α → Prop} {x : α} (h : P x) : ∀ y ∈ [x], P y := fun y m => by
  rw [List.mem_singleton.mp m]
  exact h
theorem memc {α : Type} {P : α → Prop} {x : α} {l : List α} (h : P x) (t : ∀ y ∈ l, P y) : ∀ y ∈ x :: l, P y := fun y m => by
  rcases List.mem_cons.mp m with e | m
  · rw [e]
    exact h
  · exact t y m
theorem mem0 {α : Type} {P : α → Prop} : ∀ y ∈ ([] : List α), P y := fun _ m => nomatch m
theorem mema {α : Type} {P : α → Prop} {l r : List α} (h : ∀ y ∈ l, P y) (t : ∀ y ∈ r, P y) : ∀ y ∈ l ++ r, P y := fun y m => by
  rcases List.mem_append.mp m with m | m
  · exact h y m
  · exact t y m
/-- a written text -/
theorem Okv.lit {K : PySem.W.Frag} {H : Hp} {b : Addr} {n : Nat} {z : Str} (h : (decide (z.cps.size ≤ 100000) && z.cps.toList.all fun c => decide (c < 1114112)) = true) : Okv K H b n (.str z) := by
  rw [Bool.and_eq_true] at h
  refine .str ⟨of_decide_eq_true h.1, fun c m => ?_⟩
  have q := List.all_eq_true.mp h.2 c m
  exact of_decide_eq_true q
/-- such a text drawn from -/
theorem Thg.lit {K : PySem.W.Frag} {H : Hp} {b : Addr} {z : Str} (h : (decide (0 < z.cps.size) && decide (z.cps.size ≤ 100000) && z.cps.toList.all fun c => decide (c < 1114112)) = true) : Thg K H b (.str z) (fun v => ∃ c, v = .str ⟨#[c]⟩ ∧ c < 1114112) := by
  rw [Bool.and_eq_true, Bool.and_eq_true] at h
  exact .inl ⟨z, rfl, of_decide_eq_true h.1.1, of_decide_eq_true h.1.2, fun c m => ⟨c, rfl, of_decide_eq_true (List.all_eq_true.mp h.2 c m)⟩⟩
theorem Thg.lst {K : PySem.W.Frag} {H : Hp} {b a : Addr} {xs : List V} {Pt : V → Prop} (ne : a ≠ b) (h : SqL K H a xs) (h0 : 0 < xs.length) (hl : xs.length ≤ 100000) (hx : ∀ v ∈ xs, Pt v) : Thg K H b (.ref a) Pt := .inr ⟨a, xs, rfl, ne, h, h0, hl, hx⟩

section
variable {P : Program} {w : World} {K : PySem.W.Frag} {mg : Str → Option Value} {base : Heap} {Z : Fs}
def sp_law_odd (K : PySem.W.Frag) : Sp := fun vs H Q _ => ∃ (b l m : Addr) (ms : List V), vs = [.ref b, .ref m] ∧ Bag H b l ∧ H m = some (.lst ms) ∧ m ≠ b ∧ (∀ x ∈ ms, Okv K H b 3 x) ∧ ms.length ≤ 1000 ∧ ∀ (H' : Hp) (v : V), Stp b H H' → Bag H' b l → Okv K H' b 3 v → Q v H'
theorem ok_law_odd (T : Txt K w mg Z) : FnOk P w K mg base CX0 3 Z.a_law_odd Z.d_law_odd ["_law_bag_here", "_law_more"] (sp_law_odd K) := by
  have G_law_of : FnOk P w K mg base CX0 2 Z.a_law_of Z.d_law_of ["_law_bag_here", "_law_things"] (sp_law_of K) := ok_law_of T
  refine T.F_law_odd.ok sc_law_odd (fun vs H Q E h => ?_) (fun cdv A outer s H vs Q E hr h => ?_)
  · obtain ⟨b, l, m, ms, rfl, _⟩ := h
    rfl
  · obtain ⟨b, l, m, ms, rfl, B, hm, nm, hms, lms, k⟩ := h
    refine ⟨_, (pss_one (ps_ret (pe_call G_law_of (hr.mono (by omega)) (by rfl) T.m_law_of T.F_law_of.kp T.b_law_of .nil pass0 (pa_cons (pv 0) (pa_cons (pe_op op_cat (pe_lst (pa_cons pe_non (pa_cons pe_bl (pa_cons pe_bl (pa_cons pe_str (pa_cons pe_str (pa_cons (pe_un un_neg pe_int) (pa_cons pe_int (pa_cons (pe_tup pa_nil) (pa_cons (pe_lst pa_nil) (pa_cons (pe_tup (pa_cons pe_int pa_nil)) (pa_cons (pe_lst (pa_cons pe_str pa_nil)) (pa_cons pe_str (pa_cons (pe_tup (pa_cons pe_str (pa_cons pe_str pa_nil))) (pa_cons (pe_lst (pa_cons pe_non pa_nil)) pa_nil))))))))))))))) (pv 1)) pa_nil))))), ?_⟩
    refine ⟨.ref b, rfl, 1, rfl, Nat.zero_le _, fun p1 h1 => ?_⟩
    have n1 := B.ne h1
    have s1 : Same H (upd H p1 (.tup [])) := Same.new h1
    have e1 : (upd H p1 (.tup [])) p1 = some (.tup []) := upd_same
    generalize upd H p1 (.tup []) = H1 at s1 e1 ⊢
    refine ⟨Nat.zero_le _, fun p2 h2 => ?_⟩
    have n2 := (B.same s1).ne h2
    have s2 : Same H1 (upd H1 p2 (.lst [])) := Same.new h2
    have e2 : (upd H1 p2 (.lst [])) p2 = some (.lst []) := upd_same
    generalize upd H1 p2 (.lst []) = H2 at s2 e2 ⊢
    refine ⟨(by show 1 ≤ sizeLine; decide), fun p3 h3 => ?_⟩
    have n3 := (B.same (s1.trans s2)).ne h3
    have s3 : Same H2 (upd H2 p3 (.tup [V.int 1])) := Same.new h3
    have e3 : (upd H2 p3 (.tup [V.int 1])) p3 = some (.tup [V.int 1]) := upd_same
    generalize upd H2 p3 (.tup [V.int 1]) = H3 at s3 e3 ⊢
    refine ⟨(by show 1 ≤ sizeLine; decide), fun p4 h4 => ?_⟩
    have n4 := (B.same ((s1.trans s2).trans s3)).ne h4
    have s4 : Same H3 (upd H3 p4 (.lst [V.str "a"])) := Same.new h4
    have e4 : (upd H3 p4 (.lst [V.str "a"])) p4 = some (.lst [V.str "a"]) := upd_same
    generalize upd H3 p4 (.lst [V.str "a"]) = H4 at s4 e4 ⊢
    refine ⟨(by show 2 ≤ sizeLine; decide), fun p5 h5 => ?_⟩
    have n5 := (B.same (((s1.trans s2).trans s3).trans s4)).ne h5
    have s5 : Same H4 (upd H4 p5 (.tup [V.str "a", V.str "b"])) := Same.new h5
    have e5 : (upd H4 p5 (.tup [V.str "a", V.str "b"])) p5 = some (.tup [V.str "a", V.str "b"]) := upd_same
    generalize upd H4 p5 (.tup [V.str "a", V.str "b"]) = H5 at s5 e5 ⊢
    refine ⟨(by show 1 ≤ sizeLine; decide), fun p6 h6 => ?_⟩
    have n6 := (B.same ((((s1.trans s2).trans s3).trans s4).trans s5)).ne h6
    have s6 : Same H5 (upd H5 p6 (.lst [V.non])) := Same.new h6
    have e6 : (upd H5 p6 (.lst [V.non])) p6 = some (.lst [V.non]) := upd_same
    generalize upd H5 p6 (.lst [V.non]) = H6 at s6 e6 ⊢
    refine ⟨(by show 14 ≤ sizeLine; decide), fun p7 h7 => ?_⟩
    have s7 : Same H6 (upd H6 p7 (.lst [.non, .bl true, .bl false, .str "", .str "A", .int (-1), .int 999999999, .ref p1, .ref p2, .ref p3, .ref p4, .str "a b", .ref p5, .ref p6])) := Same.new h7
    have e7 : (upd H6 p7 (.lst [.non, .bl true, .bl false, .str "", .str "A", .int (-1), .int 999999999, .ref p1, .ref p2, .ref p3, .ref p4, .str "a b", .ref p5, .ref p6])) p7 = some (.lst [.non, .bl true, .bl false, .str "", .str "A", .int (-1), .int 999999999, .ref p1, .ref p2, .ref p3, .ref p4, .str "a b", .ref p5, .ref p6]) := upd_same
    generalize upd H6 p7 (.lst [.non, .bl true, .bl false, .str "", .str "A", .int (-1), .int 999999999, .ref p1, .ref p2, .ref p3, .ref p4, .str "a b", .ref p5, .ref p6]) = H7 at s7 e7 ⊢
    have t7 : Same H H7 := (((((s1.trans s2).trans s3).trans s4).trans s5).trans s6).trans s7
    refine ⟨.ref m, rfl, p7, m, _, ms, rfl, rfl, e7, t7 _ _ hm, (by show 14 + ms.length ≤ sizeLine; exact Nat.le_trans (Nat.add_le_add_left lms 14) (by decide)), fun p8 h8 => ?_⟩
    have n8 := (B.same t7).ne h8
    refine ⟨b, l, .ref p8, fun v => Okv K (upd H7 p8 (.lst ([.non, .bl true, .bl false, .str "", .str "A", .int (-1), .int 999999999, .ref p1, .ref p2, .ref p3, .ref p4, .str "a b", .ref p5, .ref p6] ++ ms))) b 3 v, rfl, (B.same t7).new h8, .lst n8 (SqL.of upd_same) (by simp) (by simp; omega) ?_, fun H' v s' B' ov => k _ _ ((Same.stp (t7.trans (Same.new h8))).trans s') B' (ov.stp s')⟩
    have s8 : Same H7 (upd H7 p8 (.lst ([.non, .bl true, .bl false, .str "", .str "A", .int (-1), .int 999999999, .ref p1, .ref p2, .ref p3, .ref p4, .str "a b", .ref p5, .ref p6] ++ ms))) := Same.new h8
    have u6 : Same H6 _ := s7.trans s8
    have u5 : Same H5 _ := s6.trans u6
    have u4 : Same H4 _ := s5.trans u5
    have u3 : Same H3 _ := s4.trans u4
    have u2 : Same H2 _ := s3.trans u3
    have u1 : Same H1 _ := s2.trans u2
    refine mema ?_ fun x hx => (hms x hx).stp (Same.stp (t7.trans s8))
    refine memc .non (memc .bl (memc .bl (memc (.lit (by decide +kernel)) (memc (.lit (by decide +kernel)) (memc .int (memc .int (memc ?_ (memc ?_ (memc ?_ (memc ?_ (memc (.lit (by decide +kernel)) (memc ?_ (mem1 ?_)))))))))))))
    · exact .tup0 n1 (SqT.of (u1 _ _ e1)) (by decide) mem0
    · exact .lst0 n2 (SqL.of (u2 _ _ e2)) (by decide) mem0
    · exact .tup0 n3 (SqT.of (u3 _ _ e3)) (by decide) (mem1 .int)
    · exact .lst0 n4 (SqL.of (u4 _ _ e4)) (by decide) (mem1 (.lit (by decide +kernel)))
    · exact .tup0 n5 (SqT.of (u5 _ _ e5)) (by decide) (memc (.lit (by decide +kernel)) (mem1 (.lit (by decide +kernel))))
    · exact .lst0 n6 (SqL.of (u6 _ _ e6)) (by decide) (mem1 .non)
end

section
variable {P : Program} {w : World} {K : PySem.W.Frag} {mg : Str → Option Value} {base : Heap} {Z : Fs}
def sp_law (K : PySem.W.Frag) : Sp := fun vs H Q _ => ∃ (a : Addr) (ns : List Int), vs = [.ref a] ∧ SqL K H a (ns.map V.int) ∧ ns.length ≤ 63 ∧ ∀ H', Q (.bl true) H'
theorem no_range (x : V) {lo hi : Int} (h : lo ≤ hi) : numV x (hi + 1) (lo - 1) = false := by
  cases x with
  | int i =>
    simp only [numV, Bool.and_eq_false_iff, decide_eq_false_iff_not]
    omega
  | _ => rfl
theorem ok_law (T : Txt K w mg Z) : FnOk P w K mg base CX0 4 Z.a_law Z.d_law ["_law_script"] (sp_law K) := by
  have G_law_bag : FnOk P w K mg base CX0 1 Z.a_law_bag Z.d_law_bag ["_law_script"] (sp_law_bag K) := ok_law_bag T
  have G_law_draw : FnOk P w K mg base CX0 1 Z.a_law_draw Z.d_law_draw ["_law_bag_here", "_law_sides"] sp_law_draw := ok_law_draw T
  have G_law_of : FnOk P w K mg base CX0 2 Z.a_law_of Z.d_law_of ["_law_bag_here", "_law_things"] (sp_law_of K) := ok_law_of T
  have G_law_odd : FnOk P w K mg base CX0 3 Z.a_law_odd Z.d_law_odd ["_law_bag_here", "_law_more"] (sp_law_odd K) := ok_law_odd T
  have G_law_same : FnOk P w K mg base CX0 2 Z.a_law_same Z.d_law_same ["_law_found", "_law_due"] (sp_law_same K 1) := ok_law_same T 1
  have G_law_is_title : FnOk P w K mg base CX0 1 Z.a_law_is_title Z.d_law_is_title ["_law_thing"] (sp_law_is_title K) := ok_law_is_title T
  have G_law_within : FnOk P w K mg base CX0 1 Z.a_law_within Z.d_law_within ["_law_thing", "_law_low_y", "_law_high_y"] (sp_law_within K) := ok_law_within T
  have G_is_name : FnOk P w K mg base CX0 1 Z.a_is_name Z.d_is_name ["value"] (sp_is_name K) := ok_is_name T
  have G_is_register : FnOk P w K mg base CX0 1 Z.a_is_register Z.d_is_register ["value"] (sp_is_register K) := ok_is_register T
  have G_is_word : FnOk P w K mg base CX0 2 Z.a_is_word Z.d_is_word ["value"] (sp_is_word K) := ok_is_word T
  have G_is_number : FnOk P w K mg base CX0 1 Z.a_is_number Z.d_is_number ["value", "least", "most"] (sp_is_number K) := ok_is_number T
  refine T.F_law.ok sc_law (fun vs H Q E h => ?_) (fun cdv A outer s H vs Q E hr h => ?_)
  · obtain ⟨a, ns, rfl, _⟩ := h
    rfl
  · obtain ⟨a, ns, rfl, hS, hlen, k⟩ := h
    refine ⟨_, (pss_cons (ps_set (i := 1) sc_law.nd rfl (Or.inr rfl) (pe_call G_law_bag (hr.mono (by omega)) (by rfl) T.m_law_bag T.F_law_bag.kp T.b_law_bag .nil pass0 (pa_cons (pv 0) pa_nil)))
      (pss_cons (ps_for PassesOwn.never rfl (pi_range1 (by rfl) T.n_range (pa_cons pe_int pa_nil)) (pg_name (i := 2) sc_law.nd rfl (Or.inl rfl)) (pss_cons (ps_set (i := 3) sc_law.nd rfl (Or.inl rfl) (pe_join pe_str (pe_lc (own := [("_law_k", 4)]) (g := gName 4) (tt := tYes) rfl sc_law.nd (pi_range1 (by rfl) T.n_range (pa_cons (pe_call G_law_draw (hr.mono (by omega)) (by rfl) T.m_law_draw T.F_law_draw.kp T.b_law_draw .nil pass0 (pa_cons (pv 1) (pa_cons pe_int pa_nil))) pa_nil)) (blkOk_by (N := N_law) (sc := defScope s_law) (by decide +kernel)) (fun _ _ _ _ _ => pg_name (i := 4) sc_law.nd rfl (Or.inl rfl)) (fun _ _ _ _ _ => pts_nil) (fun _ _ _ _ _ => (pe_call G_law_of (hr.mono (by omega)) (by rfl) T.m_law_of T.F_law_of.kp T.b_law_of .nil pass0 (pa_cons (pv 1) (pa_cons pe_str pa_nil)))))))
      (pss_cons (ps_set (i := 5) sc_law.nd rfl (Or.inl rfl) (pe_join pe_str (pe_lc (own := [("_law_k", 4)]) (g := gName 4) (tt := tYes) rfl sc_law.nd (pi_range1 (by rfl) T.n_range (pa_cons (pe_call G_law_draw (hr.mono (by omega)) (by rfl) T.m_law_draw T.F_law_draw.kp T.b_law_draw .nil pass0 (pa_cons (pv 1) (pa_cons pe_int pa_nil))) pa_nil)) (blkOk_by (N := N_law) (sc := defScope s_law) (by decide +kernel)) (fun _ _ _ _ _ => pg_name (i := 4) sc_law.nd rfl (Or.inl rfl)) (fun _ _ _ _ _ => pts_nil) (fun _ _ _ _ _ => (pe_call G_law_of (hr.mono (by omega)) (by rfl) T.m_law_of T.F_law_of.kp T.b_law_of .nil pass0 (pa_cons (pv 1) (pa_cons pe_str pa_nil)))))))
      (pss_cons (ps_set (i := 6) sc_law.nd rfl (Or.inl rfl) (pe_call G_law_of (hr.mono (by omega)) (by rfl) T.m_law_of T.F_law_of.kp T.b_law_of .nil pass0 (pa_cons (pv 1) (pa_cons (pe_lst (pa_cons pe_str (pa_cons pe_str (pa_cons pe_str (pa_cons pe_str (pa_cons pe_str (pa_cons pe_str (pa_cons pe_str (pa_cons pe_str (pa_cons pe_str (pa_cons pe_str (pa_cons pe_str (pa_cons pe_str pa_nil))))))))))))) pa_nil))))
      (pss_cons (ps_set (i := 7) sc_law.nd rfl (Or.inl rfl) (pe_call G_law_of (hr.mono (by omega)) (by rfl) T.m_law_of T.F_law_of.kp T.b_law_of .nil pass0 (pa_cons (pv 1) (pa_cons (pe_lst (pa_cons pe_int (pa_cons pe_int (pa_cons pe_int (pa_cons pe_int (pa_cons (pe_un un_neg pe_int) (pa_cons (pe_op op_sub (pe_op op_pow pe_int pe_int) pe_int) (pa_cons (pe_call G_law_draw (hr.mono (by omega)) (by rfl) T.m_law_draw T.F_law_draw.kp T.b_law_draw .nil pass0 (pa_cons (pv 1) (pa_cons pe_int pa_nil))) (pa_cons (pe_call G_law_draw (hr.mono (by omega)) (by rfl) T.m_law_draw T.F_law_draw.kp T.b_law_draw .nil pass0 (pa_cons (pv 1) (pa_cons (pe_op op_pow pe_int pe_int) pa_nil))) pa_nil))))))))) pa_nil))))
      (pss_cons (ps_for PassesOwn.never rfl (pi_list (pe_lst (pa_cons (pv 3) (pa_cons (pv 5) (pa_cons (pv 6) (pa_cons (pv 7) (pa_cons (pe_call G_law_odd (hr.mono (by omega)) (by rfl) T.m_law_odd T.F_law_odd.kp T.b_law_odd .nil pass0 (pa_cons (pv 1) (pa_cons (pe_lst (pa_cons (pe_tup (pa_cons pe_str pa_nil)) (pa_cons (pe_lst (pa_cons pe_str pa_nil)) (pa_cons (pe_tup (pa_cons pe_int pa_nil)) (pa_cons (pe_lst (pa_cons pe_int pa_nil)) (pa_cons pe_str pa_nil)))))) pa_nil))) pa_nil))))))) (pg_name (i := 8) sc_law.nd rfl (Or.inl rfl)) (pss_cons (ps_par (i := 9) (j := 10) (by rfl) sc_law.nd rfl rfl (by decide) rfl rfl (pa_cons (pe_call G_law_is_title (hr.mono (by omega)) (by rfl) T.m_law_is_title T.F_law_is_title.kp T.b_law_is_title .nil pass0 (pa_cons (pv 8) pa_nil)) (pa_cons (pe_and (pe_callB call_isi (by rfl) T.n_isinstance boot_isinstance (pa_cons (pv 8) (pa_cons (pe_bltn (v := .ty "str") (by rfl) T.n_str boot_str rfl) pa_nil))) (pe_one (pe_cmpR (op_in_seq : OpR _ _ (rIn K false)) (pv 8) (pe_lst (pa_cons pe_str (pa_cons pe_str (pa_cons pe_str pa_nil)))) (by rfl)))) pa_nil)) (by rfl))
      (pss_cons (ps_set (i := 11) sc_law.nd rfl (Or.inl rfl) (pe_call G_law_within (hr.mono (by omega)) (by rfl) T.m_law_within T.F_law_within.kp T.b_law_within .nil pass0 (pa_cons (pv 8) (pa_cons pe_int (pa_cons pe_int pa_nil)))))
      (pss_cons (ps_set (i := 12) sc_law.nd rfl (Or.inl rfl) (pe_lst (pa_cons (pe_call G_is_name (hr.mono (by omega)) (by rfl) T.m_is_name T.F_is_name.kp T.b_is_name .nil pass0 (pa_cons (pv 8) pa_nil)) (pa_cons (pe_callN0 G_is_name (hr.mono (by omega)) (by rfl) T.m_is_name T.F_is_name.kp T.k_is_name_0_value pass0 (pk_cons (pv 8) pk_nil)) (pa_cons (pe_call G_is_register (hr.mono (by omega)) (by rfl) T.m_is_register T.F_is_register.kp T.b_is_register .nil pass0 (pa_cons (pv 8) pa_nil)) (pa_cons (pe_callN0 G_is_register (hr.mono (by omega)) (by rfl) T.m_is_register T.F_is_register.kp T.k_is_register_0_value pass0 (pk_cons (pv 8) pk_nil)) pa_nil))))))
      (pss_one (ps_if (pt_not (pt_val (pe_call G_law_same (hr.mono (by omega)) (by rfl) T.m_law_same T.F_law_same.kp T.b_law_same .nil pass0 (pa_cons (pe_op op_cat (pv 12) (pe_lst (pa_cons (pe_call G_is_word (hr.mono (by omega)) (by rfl) T.m_is_word T.F_is_word.kp T.b_is_word .nil pass0 (pa_cons (pv 8) pa_nil)) (pa_cons (pe_callN0 G_is_word (hr.mono (by omega)) (by rfl) T.m_is_word T.F_is_word.kp T.k_is_word_0_value pass0 (pk_cons (pv 8) pk_nil)) pa_nil)))) (pa_cons (pe_lst (pa_cons (pv 9) (pa_cons (pv 9) (pa_cons (pv 10) (pa_cons (pv 10) (pa_cons (pv 11) (pa_cons (pv 11) pa_nil))))))) pa_nil))))) (pss_one (ps_ret pe_bl)) pss_nil))))))
      (pss_cons (ps_set (i := 13) sc_law.nd rfl (Or.inl rfl) (pe_call G_law_of (hr.mono (by omega)) (by rfl) T.m_law_of T.F_law_of.kp T.b_law_of .nil pass0 (pa_cons (pv 1) (pa_cons (pe_lst (pa_cons pe_int (pa_cons (pe_un un_neg pe_int) (pa_cons (pe_call G_law_draw (hr.mono (by omega)) (by rfl) T.m_law_draw T.F_law_draw.kp T.b_law_draw .nil pass0 (pa_cons (pv 1) (pa_cons (pe_op op_pow pe_int pe_int) pa_nil))) (pa_cons (pe_op op_sub (pe_call G_law_draw (hr.mono (by omega)) (by rfl) T.m_law_draw T.F_law_draw.kp T.b_law_draw .nil pass0 (pa_cons (pv 1) (pa_cons pe_int pa_nil))) pe_int) pa_nil))))) pa_nil))))
      (pss_cons (ps_set (i := 14) sc_law.nd rfl (Or.inl rfl) (pe_op op_add (pv 13) (pe_call G_law_of (hr.mono (by omega)) (by rfl) T.m_law_of T.F_law_of.kp T.b_law_of .nil pass0 (pa_cons (pv 1) (pa_cons (pe_lst (pa_cons pe_int (pa_cons pe_int (pa_cons pe_int (pa_cons (pe_call G_law_draw (hr.mono (by omega)) (by rfl) T.m_law_draw T.F_law_draw.kp T.b_law_draw .nil pass0 (pa_cons (pv 1) (pa_cons pe_int pa_nil))) pa_nil))))) pa_nil)))))
      (pss_one (ps_for PassesOwn.never rfl (pi_list (pe_lst (pa_cons (pe_op op_sub (pv 13) pe_int) (pa_cons (pv 13) (pa_cons (pe_op op_add (pv 13) pe_int) (pa_cons (pe_op op_sub (pv 14) pe_int) (pa_cons (pv 14) (pa_cons (pe_op op_add (pv 14) pe_int) (pa_cons (pe_call G_law_odd (hr.mono (by omega)) (by rfl) T.m_law_odd T.F_law_odd.kp T.b_law_odd .nil pass0 (pa_cons (pv 1) (pa_cons (pe_lst (pa_cons (pe_lst pa_nil) (pa_cons pe_str (pa_cons (pe_tup (pa_cons (pv 13) pa_nil)) pa_nil)))) pa_nil))) pa_nil))))))))) (pg_name (i := 8) sc_law.nd rfl (Or.inl rfl)) (pss_cons (ps_set (i := 15) sc_law.nd rfl (Or.inl rfl) (pe_call G_law_within (hr.mono (by omega)) (by rfl) T.m_law_within T.F_law_within.kp T.b_law_within .nil pass0 (pa_cons (pv 8) (pa_cons (pv 13) (pa_cons (pv 14) pa_nil)))))
      (pss_cons (ps_set (i := 12) sc_law.nd rfl (Or.inl rfl) (pe_lst (pa_cons (pe_call G_is_number (hr.mono (by omega)) (by rfl) T.m_is_number T.F_is_number.kp T.b_is_number .nil pass0 (pa_cons (pv 8) (pa_cons (pv 13) (pa_cons (pv 14) pa_nil)))) (pa_cons (pe_callN0 G_is_number (hr.mono (by omega)) (by rfl) T.m_is_number T.F_is_number.kp T.k_is_number_0_most_least_value pass0 (pk_cons (pv 14) (pk_cons (pv 13) (pk_cons (pv 8) pk_nil)))) pa_nil))))
      (pss_one (ps_if (pt_not (pt_val (pe_call G_law_same (hr.mono (by omega)) (by rfl) T.m_law_same T.F_law_same.kp T.b_law_same .nil pass0 (pa_cons (pe_op op_cat (pv 12) (pe_lst (pa_cons (pe_call G_is_number (hr.mono (by omega)) (by rfl) T.m_is_number T.F_is_number.kp T.b_is_number .nil pass0 (pa_cons (pv 8) (pa_cons (pe_op op_add (pv 14) pe_int) (pa_cons (pe_op op_sub (pv 13) pe_int) pa_nil)))) pa_nil))) (pa_cons (pe_lst (pa_cons (pv 15) (pa_cons (pv 15) (pa_cons pe_bl pa_nil)))) pa_nil))))) (pss_one (ps_ret pe_bl)) pss_nil))))))))))))))
      (pss_cons (ps_set (i := 16) sc_law.nd rfl (Or.inl rfl) (pe_lst (pa_cons (pe_call G_is_number (hr.mono (by omega)) (by rfl) T.m_is_number T.F_is_number.kp T.b_is_number .nil pass0 (pa_cons pe_bl (pa_cons pe_int (pa_cons pe_int pa_nil)))) (pa_cons (pe_call G_is_number (hr.mono (by omega)) (by rfl) T.m_is_number T.F_is_number.kp T.b_is_number .nil pass0 (pa_cons pe_bl (pa_cons pe_int (pa_cons pe_int pa_nil)))) (pa_cons (pe_call G_is_word (hr.mono (by omega)) (by rfl) T.m_is_word T.F_is_word.kp T.b_is_word .nil pass0 (pa_cons pe_bl pa_nil)) (pa_cons (pe_call G_is_word (hr.mono (by omega)) (by rfl) T.m_is_word T.F_is_word.kp T.b_is_word .nil pass0 (pa_cons pe_bl pa_nil)) (pa_cons (pe_call G_is_name (hr.mono (by omega)) (by rfl) T.m_is_name T.F_is_name.kp T.b_is_name .nil pass0 (pa_cons pe_str pa_nil)) (pa_cons (pe_call G_is_name (hr.mono (by omega)) (by rfl) T.m_is_name T.F_is_name.kp T.b_is_name .nil pass0 (pa_cons pe_str pa_nil)) pa_nil))))))))
      (pss_one (ps_ret (pe_call G_law_same (hr.mono (by omega)) (by rfl) T.m_law_same T.F_law_same.kp T.b_law_same .nil pass0 (pa_cons (pv 16) (pa_cons (pe_lst (pa_cons pe_bl (pa_cons pe_bl (pa_cons pe_bl (pa_cons pe_bl (pa_cons pe_bl (pa_cons pe_bl pa_nil))))))) pa_nil)))))))), ?_⟩
    refine ⟨.ref a, rfl, a, ns, rfl, hS, hlen, fun H0 b l s0 hb0 _ B0 => ?_⟩
    refine ⟨6, rfl, by decide, by decide, for_range (lo := 0) (n := 6) (fun i σ H' => ∃ (y2 y3 y4 y5 y6 y7 y8 y9 y10 y11 y12 y13 y14 y15 y16 : Option V), σ = [some (.ref a), some (.ref b), y2, y3, y4, y5, y6, y7, y8, y9, y10, y11, y12, y13, y14, y15, y16] ∧ Bag H' b l)
      ⟨_, _, _, _, _, _, _, _, _, _, _, _, _, _, _, rfl, B0⟩ ?_ ?_⟩
    · rintro i σ H hi ⟨y2, y3, y4, y5, y6, y7, y8, y9, y10, y11, y12, y13, y14, y15, y16, rfl, B⟩
      -- wild
      refine ⟨⟨_, rfl⟩, .ref b, rfl, b, l, 9, rfl, B, by decide, by decide, fun H1 d1 s1 B1 g0 g1 => ⟨d1, rfl, by omega, by omega, fun D hD => ?_⟩⟩
      have nD := B1.ne hD
      have nDl := B1.nel hD
      refine lc_it walk_range (fun i H' => Bag H' b l ∧ ∃ cs : List Nat, H' D = some (.lst ((cs.map fun c => (⟨#[c]⟩ : Str)).map V.str)) ∧ cs.length = i ∧ ∀ c ∈ cs, c < 1114112) ⟨B1.new hD, [], upd_same, rfl, mem0⟩ (fun _ _ _ _ => True.intro) ?_ ?_
      · rintro j x H2 H3 hj ⟨B2, cs, e2, lc, hc⟩ ⟨rfl, rfl⟩
        refine ⟨rfl, .ref b, rfl, b, l, _, _, rfl, B2, .lit (by decide +kernel), fun H4 v s4 B4 hv => ?_⟩
        obtain ⟨c, rfl, hc4⟩ := hv
        refine ⟨_, s4 _ _ nD e2, ?_, B4.put nD nDl, cs ++ [c], ?_, ?_, mema hc (mem1 hc4)⟩
        · rw [List.length_map, List.length_map, lc]
          exact Nat.lt_of_lt_of_le (show j < 9 by omega) (by decide)
        · rw [upd_same]
          simp
        · simp [lc]
      rintro H2 ⟨B2, cs, e2, lc, hc⟩
      refine ⟨_, D, cs.map fun c => (⟨#[c]⟩ : Str), rfl, rfl, .inl (SqL.of e2), ?_, ?_⟩
      · rw [len_ones, List.length_map, lc]
        show d1.toNat + d1.toNat * 0 ≤ 16777216
        omega
      rw [join_ones]
      have K1 : StrK (⟨cs.toArray⟩ : Str) := strK_of (by omega) hc
      generalize (⟨cs.toArray⟩ : Str) = w1 at K1 ⊢
      clear e2 lc hc nD nDl hD B1 s1 B
      -- plain
      refine ⟨⟨_, rfl⟩, .ref b, rfl, b, l, 9, rfl, B2, by decide, by decide, fun H1 d1 s1 B1 g0 g1 => ⟨d1, rfl, by omega, by omega, fun D hD => ?_⟩⟩
      have nD := B1.ne hD
      have nDl := B1.nel hD
      refine lc_it walk_range (fun i H' => Bag H' b l ∧ ∃ cs : List Nat, H' D = some (.lst ((cs.map fun c => (⟨#[c]⟩ : Str)).map V.str)) ∧ cs.length = i ∧ ∀ c ∈ cs, c < 1114112) ⟨B1.new hD, [], upd_same, rfl, mem0⟩ (fun _ _ _ _ => True.intro) ?_ ?_
      · rintro j x H2 H3 hj ⟨B2, cs, e2, lc, hc⟩ ⟨rfl, rfl⟩
        refine ⟨rfl, .ref b, rfl, b, l, _, _, rfl, B2, .lit (by decide +kernel), fun H4 v s4 B4 hv => ?_⟩
        obtain ⟨c, rfl, hc4⟩ := hv
        refine ⟨_, s4 _ _ nD e2, ?_, B4.put nD nDl, cs ++ [c], ?_, ?_, mema hc (mem1 hc4)⟩
        · rw [List.length_map, List.length_map, lc]
          exact Nat.lt_of_lt_of_le (show j < 9 by omega) (by decide)
        · rw [upd_same]
          simp
        · simp [lc]
      rintro H2 ⟨B2, cs, e2, lc, hc⟩
      refine ⟨_, D, cs.map fun c => (⟨#[c]⟩ : Str), rfl, rfl, .inl (SqL.of e2), ?_, ?_⟩
      · rw [len_ones, List.length_map, lc]
        show d1.toNat + d1.toNat * 0 ≤ 16777216
        omega
      rw [join_ones]
      have K2 : StrK (⟨cs.toArray⟩ : Str) := strK_of (by omega) hc
      generalize (⟨cs.toArray⟩ : Str) = w2 at K2 ⊢
      clear e2 lc hc nD nDl hD B1 s1
      -- near
      refine ⟨.ref b, rfl, (by show 12 ≤ sizeLine; decide), fun p hp => ?_⟩
      refine ⟨b, l, .ref p, fun v => Okv K H2 b 3 v, rfl, B2.new hp, .lst (B2.ne hp) (SqL.of upd_same) (by show 0 < 12; decide) (by show 12 ≤ 100000; decide) ?_, fun H3 v3 s3 B3 K3 => ?_⟩
      · exact memc (.lit (by decide +kernel)) (memc (.lit (by decide +kernel)) (memc (.lit (by decide +kernel)) (memc (.lit (by decide +kernel)) (memc (.lit (by decide +kernel)) (memc (.lit (by decide +kernel)) (memc (.lit (by decide +kernel)) (memc (.lit (by decide +kernel)) (memc (.lit (by decide +kernel)) (memc (.lit (by decide +kernel)) (memc (.lit (by decide +kernel)) (mem1 (.lit (by decide +kernel)))))))))))))
      replace K3 := K3.stp ((Stp.new hp).trans s3)
      clear s3 hp
      -- edge
      refine ⟨.ref b, rfl, 1, rfl, 10, 9, rfl, rfl, ⟨by decide, by decide, by decide⟩, _, _, rfl, rfl, .ref b, rfl, b, l, 65536, rfl, B3, by decide, by decide, fun H4 d4 s4 B4 _ _ => ?_⟩
      refine ⟨.ref b, rfl, 10, 9, rfl, rfl, ⟨by decide, by decide, by decide⟩, b, l, _, rfl, B4, by decide, by decide, fun H5 d5 s5 B5 _ _ => ?_⟩
      refine ⟨(by show 8 ≤ sizeLine; decide), fun p hp => ?_⟩
      refine ⟨b, l, .ref p, fun v => ∃ i, v = .int i, rfl, B5.new hp, .lst (B5.ne hp) (SqL.of upd_same) (by show 0 < 8; decide) (by show 8 ≤ 100000; decide) ?_, fun H6 v6 s6 B6 hv6 => ?_⟩
      · exact memc ⟨_, rfl⟩ (memc ⟨_, rfl⟩ (memc ⟨_, rfl⟩ (memc ⟨_, rfl⟩ (memc ⟨_, rfl⟩ (memc ⟨_, rfl⟩ (memc ⟨_, rfl⟩ (mem1 ⟨_, rfl⟩)))))))
      obtain ⟨e6, rfl⟩ := hv6
      replace K3 := K3.stp (((s4.trans s5).trans (Stp.new hp)).trans s6)
      clear s4 s5 s6 hp B3 B4 B5 B2
      -- for thing in [wild, plain, near, edge, odd]
      refine ⟨_, rfl, _, rfl, _, rfl, _, rfl, .ref b, rfl, (by show 1 ≤ sizeLine; decide), fun p1 h1 => ?_⟩
      have n1 := B6.ne h1
      have s7 : Same H6 (upd H6 p1 (.tup [V.str "r0"])) := Same.new h1
      have e7 : (upd H6 p1 (.tup [V.str "r0"])) p1 = some (.tup [V.str "r0"]) := upd_same
      generalize upd H6 p1 (.tup [V.str "r0"]) = H7 at s7 e7 ⊢
      have B7 := B6.same s7
      refine ⟨(by show 1 ≤ sizeLine; decide), fun p2 h2 => ?_⟩
      have n2 := B7.ne h2
      have s8 : Same H7 (upd H7 p2 (.lst [V.str "r0"])) := Same.new h2
      have e8 : (upd H7 p2 (.lst [V.str "r0"])) p2 = some (.lst [V.str "r0"]) := upd_same
      generalize upd H7 p2 (.lst [V.str "r0"]) = H8 at s8 e8 ⊢
      have B8 := B7.same s8
      refine ⟨(by show 1 ≤ sizeLine; decide), fun p3 h3 => ?_⟩
      have n3 := B8.ne h3
      have s9 : Same H8 (upd H8 p3 (.tup [V.int 0])) := Same.new h3
      have e9 : (upd H8 p3 (.tup [V.int 0])) p3 = some (.tup [V.int 0]) := upd_same
      generalize upd H8 p3 (.tup [V.int 0]) = H9 at s9 e9 ⊢
      have B9 := B8.same s9
      refine ⟨(by show 1 ≤ sizeLine; decide), fun p4 h4 => ?_⟩
      have n4 := B9.ne h4
      have s10 : Same H9 (upd H9 p4 (.lst [V.int 0])) := Same.new h4
      have e10 : (upd H9 p4 (.lst [V.int 0])) p4 = some (.lst [V.int 0]) := upd_same
      generalize upd H9 p4 (.lst [V.int 0]) = H10 at s10 e10 ⊢
      have B10 := B9.same s10
      refine ⟨(by show 5 ≤ sizeLine; decide), fun p5 h5 => ?_⟩
      have n5 := B10.ne h5
      have s11 : Same H10 (upd H10 p5 (.lst [V.ref p1, V.ref p2, V.ref p3, V.ref p4, V.str "65535"])) := Same.new h5
      have e11 : (upd H10 p5 (.lst [V.ref p1, V.ref p2, V.ref p3, V.ref p4, V.str "65535"])) p5 = some (.lst [V.ref p1, V.ref p2, V.ref p3, V.ref p4, V.str "65535"]) := upd_same
      generalize upd H10 p5 (.lst [V.ref p1, V.ref p2, V.ref p3, V.ref p4, V.str "65535"]) = H11 at s11 e11 ⊢
      have B11 := B10.same s11
      have u9 : Same H9 H11 := s10.trans s11
      have u8 : Same H8 H11 := s9.trans u9
      have u7 : Same H7 H11 := s8.trans u8
      refine ⟨b, l, p5, _, rfl, B11, e11, n5, ?_, (by show 5 ≤ 1000; decide), fun H12 v12 s12 B12 K12 => ?_⟩
      · refine memc ?_ (memc ?_ (memc ?_ (memc ?_ (mem1 (.lit (by decide +kernel))))))
        · exact .tup0 n1 (SqT.of (u7 _ _ e7)) (by decide) (mem1 (.lit (by decide +kernel)))
        · exact .lst0 n2 (SqL.of (u8 _ _ e8)) (by decide) (mem1 (.lit (by decide +kernel)))
        · exact .tup0 n3 (SqT.of (u9 _ _ e9)) (by decide) (mem1 .int)
        · exact .lst0 n4 (SqL.of (s11 _ _ e10)) (by decide) (mem1 .int)
      replace K3 := K3.stp ((Same.stp (s7.trans u7)).trans s12)
      clear u7 u8 u9 s7 s8 s9 s10 s11 s12 e7 e8 e9 e10 e11 h1 h2 h3 h4 h5 n1 n2 n3 n4 n5 B6 B7 B8 B9 B10 B11
      refine ⟨(by show 5 ≤ sizeLine; decide), fun q hq => ?_⟩
      have nq := B12.ne hq
      have s13 : Same H12 (upd H12 q (.lst [V.str w1, V.str w2, v3, V.int e6, v12])) := Same.new hq
      have e13 : (upd H12 q (.lst [V.str w1, V.str w2, v3, V.int e6, v12])) q = some (.lst [V.str w1, V.str w2, v3, V.int e6, v12]) := upd_same
      generalize upd H12 q (.lst [V.str w1, V.str w2, v3, V.int e6, v12]) = H13 at s13 e13 ⊢
      have B13 := B12.same s13
      have KK : ∀ x ∈ [V.str w1, V.str w2, v3, V.int e6, v12], Okv K H13 b 3 x := memc (.str K1) (memc (.str K2) (memc (K3.stp (Same.stp s13)) (memc .int (mem1 (K12.stp (Same.stp s13))))))
      refine ⟨q, rfl, ⟨_, SqL.of e13⟩, for_list (K := K) (a := q) (xs := [V.str w1, V.str w2, v3, V.int e6, v12]) (fun _ σ H' => ∃ (y8 y9 y10 y11 y12 : Option V), σ = [some (.ref a), some (.ref b), some (.int (0 + i)), some (.str w1), y4, some (.str w2), some v3, some (.int e6), y8, y9, y10, y11, y12, y13, y14, y15, y16] ∧ Bag H' b l ∧ Stp b H13 H')
        ⟨_, _, _, _, _, rfl, B13, Stp.refl⟩ (fun _ σ H' _ ⟨_, _, _, _, _, _, _, s'⟩ => SqL.of (s' _ _ nq e13)) ?_ ?_⟩
      · rintro j x σ H hx ⟨z8, z9, z10, z11, z12, rfl, B, s'⟩
        have ok : Okv K H b 3 x := (KK x (List.mem_of_getElem? hx)).stp s'
        obtain ⟨t, ty, kS, _, _⟩ := ok.ty
        -- named, kept
        refine ⟨x, rfl, x, b, 3, rfl, ok, fun H1 s1 => ?_⟩
        have ok1 := ok.stp (Same.stp (b := b) s1)
        obtain ⟨t, ty, kS, _, _⟩ := ok1.ty
        refine Evl.ev_andV (a := isS x) (b := inV x regs) (H := H1) (fun H2 x2 Q2 q2 => ?_) (fun hs H2 x2 Q2 q2 => ?_) H1 (Evl.Ex.refl _) _ fun H2 s2 => ?_
        · obtain ⟨t, ty, kS, _, _⟩ := (ok1.stp (Same.stp (b := b) x2)).ty
          exact ⟨x, rfl, x, .ty "str", t, _, _, rfl, .ty _, ty, kS, q2 _ (Evl.Ex.refl _)⟩
        · obtain ⟨z, rfl⟩ := isS_of hs
          exact ⟨_, rfl, (by show 3 ≤ sizeLine; decide), fun r hr => ⟨r, regs, rfl, .inl (SqL.of upd_same), rfl, rfl, q2 _ (Evl.Ex.new hr)⟩⟩
        have s2 : Same H1 H2 := s2
        have ok2 := ok1.stp (Same.stp (b := b) s2)
        refine ⟨_, _, rfl, ?_⟩
        -- word_y
        refine ⟨x, rfl, x, 0, 65535, b, 3, rfl, ok2, fun H3 s3 => ?_⟩
        have ok3 := ok2.stp (Same.stp (b := b) s3)
        -- found
        refine ⟨x, rfl, x, b, 3, rfl, ok3, fun H4 s4 => ?_⟩
        have ok4 := ok3.stp (Same.stp (b := b) s4)
        refine ⟨x, rfl, rfl, rfl, x, b, 3, rfl, ok4, fun H5 s5 => ?_⟩
        have ok5 := ok4.stp (Same.stp (b := b) s5)
        refine ⟨x, rfl, x, b, 3, rfl, ok5, fun H6 s6 => ?_⟩
        have ok6 := ok5.stp (Same.stp (b := b) s6)
        refine ⟨x, rfl, rfl, rfl, x, b, 3, rfl, ok6, fun H7 s7 => ?_⟩
        have ok7 := ok6.stp (Same.stp (b := b) s7)
        have t7 : Same H H7 := (((((s1.trans s2).trans s3).trans s4).trans s5).trans s6).trans s7
        have B7 := B.same t7
        refine ⟨(by show 4 ≤ sizeLine; decide), fun p hp => ?_⟩
        have np := B7.ne hp
        have s8 : Same H7 (upd H7 p (.lst [V.bl (nmV x), V.bl (nmV x), V.bl (regV x), V.bl (regV x)])) := Same.new hp
        have e8 : (upd H7 p (.lst [V.bl (nmV x), V.bl (nmV x), V.bl (regV x), V.bl (regV x)])) p = some (.lst [V.bl (nmV x), V.bl (nmV x), V.bl (regV x), V.bl (regV x)]) := upd_same
        generalize upd H7 p (.lst [V.bl (nmV x), V.bl (nmV x), V.bl (regV x), V.bl (regV x)]) = H8 at s8 e8 ⊢
        have ok8 := ok7.stp (Same.stp (b := b) s8)
        -- same(found + [..], [..])
        refine ⟨.ref p, rfl, x, rfl, x, b, 3, rfl, ok8, fun H9 s9 => ?_⟩
        have ok9 := ok8.stp (Same.stp (b := b) s9)
        refine ⟨x, rfl, rfl, rfl, x, b, 3, rfl, ok9, fun H10 s10 => ?_⟩
        refine ⟨(by show 2 ≤ sizeLine; decide), fun p2 hp2 => ?_⟩
        have s11 : Same H10 (upd H10 p2 (.lst [V.bl (numV x 0 65535), V.bl (numV x 0 65535)])) := Same.new hp2
        have e11 : (upd H10 p2 (.lst [V.bl (numV x 0 65535), V.bl (numV x 0 65535)])) p2 = some (.lst [V.bl (numV x 0 65535), V.bl (numV x 0 65535)]) := upd_same
        generalize upd H10 p2 (.lst [V.bl (numV x 0 65535), V.bl (numV x 0 65535)]) = H11 at s11 e11 ⊢
        refine ⟨p, p2, _, _, rfl, rfl, s11 _ _ (s10 _ _ (s9 _ _ e8)), e11, (by show 6 ≤ sizeLine; decide), fun p3 hp3 => ?_⟩
        have e12 : (upd H11 p3 (.lst ([V.bl (nmV x), V.bl (nmV x), V.bl (regV x), V.bl (regV x)] ++ [V.bl (numV x 0 65535), V.bl (numV x 0 65535)]))) p3 = some (.lst [V.bl (nmV x), V.bl (nmV x), V.bl (regV x), V.bl (regV x), V.bl (numV x 0 65535), V.bl (numV x 0 65535)]) := upd_same
        have s12 : Same H11 (upd H11 p3 (.lst ([V.bl (nmV x), V.bl (nmV x), V.bl (regV x), V.bl (regV x)] ++ [V.bl (numV x 0 65535), V.bl (numV x 0 65535)]))) := Same.new hp3
        generalize upd H11 p3 (.lst ([V.bl (nmV x), V.bl (nmV x), V.bl (regV x), V.bl (regV x)] ++ [V.bl (numV x 0 65535), V.bl (numV x 0 65535)])) = H12 at s12 e12 ⊢
        refine ⟨_, rfl, _, rfl, _, rfl, _, rfl, _, rfl, _, rfl, (by show 6 ≤ sizeLine; decide), fun p4 hp4 => ?_⟩
        have e13' : (upd H12 p4 (.lst [V.bl (nmV x), V.bl (nmV x), V.bl (regV x), V.bl (regV x), V.bl (numV x 0 65535), V.bl (numV x 0 65535)])) p4 = some (.lst [V.bl (nmV x), V.bl (nmV x), V.bl (regV x), V.bl (regV x), V.bl (numV x 0 65535), V.bl (numV x 0 65535)]) := upd_same
        refine ⟨.ref p3, .ref p4, rfl, Eqd.lists (SqL.of ((Same.new hp4) _ _ e12)) (SqL.of e13') (by show 6 ≤ 100000; decide) ?_, fun H14 s14 => ⟨true, rfl, iteF ?_⟩⟩
        · exact memc (Eqd.flat rfl) (memc (Eqd.flat rfl) (memc (Eqd.flat rfl) (memc (Eqd.flat rfl) (memc (Eqd.flat rfl) (mem1 (Eqd.flat rfl))))))
        have tt : Same H H14 := (((((t7.trans s8).trans s9).trans s10).trans s11).trans s12).trans ((Same.new hp4).trans s14)
        exact ⟨_, _, _, _, _, rfl, B.same tt, s'.trans (Same.stp tt)⟩
      · rintro σ H ⟨z8, z9, z10, z11, z12, rfl, B, s'⟩
        clear s' KK B13 e13 s13 nq hq K12 B12 K3 K1 K2
        -- low_y
        refine ⟨.ref b, rfl, 5, rfl, .ref b, rfl, 10, 6, rfl, rfl, ⟨by decide, by decide, by decide⟩, b, l, _, rfl, B, by decide, by decide, fun H1 d1 s1 B1 _ _ => ?_⟩
        refine ⟨.ref b, rfl, b, l, 21, rfl, B1, by decide, by decide, fun H2 d2 s2 B2 _ _ => ⟨_, _, rfl, rfl, ?_⟩⟩
        refine ⟨(by show 4 ≤ sizeLine; decide), fun p hp => ?_⟩
        refine ⟨b, l, .ref p, fun v => ∃ i, v = .int i, rfl, B2.new hp, .lst (B2.ne hp) (SqL.of upd_same) (by show 0 < 4; decide) (by show 4 ≤ 100000; decide) ?_, fun H3 v3 s3 B3 hv3 => ?_⟩
        · exact memc ⟨_, rfl⟩ (memc ⟨_, rfl⟩ (memc ⟨_, rfl⟩ (mem1 ⟨_, rfl⟩)))
        obtain ⟨lo, rfl⟩ := hv3
        clear hp s1 s2 s3 B1 B2
        -- high_y
        refine ⟨_, rfl, .ref b, rfl, .ref b, rfl, b, l, 1000, rfl, B3, by decide, by decide, fun H4 d4 s4 B4 g4 _ => ?_⟩
        refine ⟨(by show 4 ≤ sizeLine; decide), fun p hp => ?_⟩
        refine ⟨b, l, .ref p, fun v => ∃ i, v = .int i ∧ 0 ≤ i, rfl, B4.new hp, .lst (B4.ne hp) (SqL.of upd_same) (by show 0 < 4; decide) (by show 4 ≤ 100000; decide) ?_, fun H5 v5 s5 B5 hv5 => ?_⟩
        · exact memc ⟨_, rfl, by decide⟩ (memc ⟨_, rfl, by decide⟩ (memc ⟨_, rfl, by decide⟩ (mem1 ⟨_, rfl, g4⟩)))
        obtain ⟨up, rfl, up0⟩ := hv5
        refine ⟨_, _, rfl, rfl, ?_⟩
        clear hp s4 s5 B3 B4
        have hle : lo ≤ lo + up := by omega
        -- for thing in [..]
        refine ⟨_, rfl, _, _, rfl, rfl, _, rfl, _, rfl, _, _, rfl, rfl, _, rfl, _, _, rfl, rfl, _, rfl, _, rfl, _, _, rfl, rfl, .ref b, rfl, Nat.zero_le _, fun p1 h1 => ?_⟩
        have n1 := B5.ne h1
        have s7 : Same H5 (upd H5 p1 (.lst [])) := Same.new h1
        have e7 : (upd H5 p1 (.lst [])) p1 = some (.lst []) := upd_same
        generalize upd H5 p1 (.lst []) = H7 at s7 e7 ⊢
        have B7 := B5.same s7
        refine ⟨_, rfl, (by show 1 ≤ sizeLine; decide), fun p2 h2 => ?_⟩
        have n2 := B7.ne h2
        have s8 : Same H7 (upd H7 p2 (.tup [V.int lo])) := Same.new h2
        have e8 : (upd H7 p2 (.tup [V.int lo])) p2 = some (.tup [V.int lo]) := upd_same
        generalize upd H7 p2 (.tup [V.int lo]) = H8 at s8 e8 ⊢
        have B8 := B7.same s8
        refine ⟨(by show 3 ≤ sizeLine; decide), fun p5 h5 => ?_⟩
        have n5 := B8.ne h5
        have s11 : Same H8 (upd H8 p5 (.lst [V.ref p1, V.str "1", V.ref p2])) := Same.new h5
        have e11 : (upd H8 p5 (.lst [V.ref p1, V.str "1", V.ref p2])) p5 = some (.lst [V.ref p1, V.str "1", V.ref p2]) := upd_same
        generalize upd H8 p5 (.lst [V.ref p1, V.str "1", V.ref p2]) = H11 at s11 e11 ⊢
        have B11 := B8.same s11
        refine ⟨b, l, p5, _, rfl, B11, e11, n5, ?_, (by show 3 ≤ 1000; decide), fun H12 v12 s12 B12 K12 => ?_⟩
        · refine memc ?_ (memc (.lit (by decide +kernel)) (mem1 ?_))
          · exact .lst0 n1 (SqL.of (s11 _ _ (s8 _ _ e7))) (by decide) mem0
          · exact .tup0 n2 (SqT.of (s11 _ _ e8)) (by show 1 ≤ 100000; decide) (mem1 .int)
        clear s7 s8 s11 s12 e7 e8 e11 h1 h2 h5 n1 n2 n5 B5 B7 B8 B11
        refine ⟨(by show 7 ≤ sizeLine; decide), fun q hq => ?_⟩
        have nq := B12.ne hq
        have s13 : Same H12 (upd H12 q (.lst [V.int (lo - 1), V.int lo, V.int (lo + 1), V.int ((lo + up) - 1), V.int (lo + up), V.int ((lo + up) + 1), v12])) := Same.new hq
        have e13 : (upd H12 q (.lst [V.int (lo - 1), V.int lo, V.int (lo + 1), V.int ((lo + up) - 1), V.int (lo + up), V.int ((lo + up) + 1), v12])) q = some (.lst [V.int (lo - 1), V.int lo, V.int (lo + 1), V.int ((lo + up) - 1), V.int (lo + up), V.int ((lo + up) + 1), v12]) := upd_same
        have B13 := B12.same s13
        have KK : ∀ x ∈ [V.int (lo - 1), V.int lo, V.int (lo + 1), V.int ((lo + up) - 1), V.int (lo + up), V.int ((lo + up) + 1), v12], Okv K (upd H12 q (.lst [V.int (lo - 1), V.int lo, V.int (lo + 1), V.int ((lo + up) - 1), V.int (lo + up), V.int ((lo + up) + 1), v12])) b 3 x := memc .int (memc .int (memc .int (memc .int (memc .int (memc .int (mem1 (K12.stp (Same.stp s13))))))))
        refine ⟨q, rfl, ⟨_, SqL.of e13⟩, for_list (K := K) (a := q) (xs := [V.int (lo - 1), V.int lo, V.int (lo + 1), V.int ((lo + up) - 1), V.int (lo + up), V.int ((lo + up) + 1), v12]) (fun _ σ H' => ∃ (x2 x3 x4 x5 x6 x7 x8 x9 x10 x11 x12 x15 x16 : Option V), σ = [some (.ref a), some (.ref b), x2, x3, x4, x5, x6, x7, x8, x9, x10, x11, x12, some (.int lo), some (.int (lo + up)), x15, x16] ∧ Bag H' b l ∧ Stp b (upd H12 q (.lst [V.int (lo - 1), V.int lo, V.int (lo + 1), V.int ((lo + up) - 1), V.int (lo + up), V.int ((lo + up) + 1), v12])) H')
          ⟨_, _, _, _, _, _, _, _, _, _, _, _, _, rfl, B13, Stp.refl⟩ (fun _ σ H' _ ⟨_, _, _, _, _, _, _, _, _, _, _, _, _, _, _, s'⟩ => SqL.of (s' _ _ nq e13)) ?_ ?_⟩
        · rintro j x σ H hx ⟨x2, x3, x4, x5, x6, x7, x8, x9, x10, x11, x12, x15, x16, rfl, B, s'⟩
          have ok : Okv K H b 3 x := (KK x (List.mem_of_getElem? hx)).stp s'
          -- due
          refine ⟨x, rfl, _, rfl, _, rfl, x, lo, (lo + up), b, 3, rfl, ok, fun H1 s1 => ?_⟩
          have ok1 := ok.stp (Same.stp (b := b) s1)
          -- found
          refine ⟨x, rfl, _, rfl, _, rfl, x, lo, (lo + up), b, 3, rfl, ok1, fun H2 s2 => ?_⟩
          have ok2 := ok1.stp (Same.stp (b := b) s2)
          refine ⟨_, rfl, _, rfl, x, rfl, rfl, rfl, x, lo, (lo + up), b, 3, rfl, ok2, fun H3 s3 => ?_⟩
          have ok3 := ok2.stp (Same.stp (b := b) s3)
          refine ⟨(by show 2 ≤ sizeLine; decide), fun p hp => ?_⟩
          have s4 : Same H3 (upd H3 p (.lst [V.bl (numV x lo (lo + up)), V.bl (numV x lo (lo + up))])) := Same.new hp
          have e4 : (upd H3 p (.lst [V.bl (numV x lo (lo + up)), V.bl (numV x lo (lo + up))])) p = some (.lst [V.bl (numV x lo (lo + up)), V.bl (numV x lo (lo + up))]) := upd_same
          generalize upd H3 p (.lst [V.bl (numV x lo (lo + up)), V.bl (numV x lo (lo + up))]) = H4 at s4 e4 ⊢
          have ok4 := ok3.stp (Same.stp (b := b) s4)
          refine ⟨.ref p, rfl, x, rfl, _, rfl, _, _, rfl, rfl, _, rfl, _, _, rfl, rfl, x, (lo + up) + 1, lo - 1, b, 3, rfl, ok4, fun H5 s5 => ?_⟩
          rw [no_range x hle]
          refine ⟨(by show 1 ≤ sizeLine; decide), fun p2 hp2 => ?_⟩
          have s6 : Same H5 (upd H5 p2 (.lst [V.bl false])) := Same.new hp2
          have e6' : (upd H5 p2 (.lst [V.bl false])) p2 = some (.lst [V.bl false]) := upd_same
          generalize upd H5 p2 (.lst [V.bl false]) = H6 at s6 e6' ⊢
          refine ⟨p, p2, _, _, rfl, rfl, s6 _ _ (s5 _ _ e4), e6', (by show 3 ≤ sizeLine; decide), fun p3 hp3 => ?_⟩
          have e7 : (upd H6 p3 (.lst ([V.bl (numV x lo (lo + up)), V.bl (numV x lo (lo + up))] ++ [V.bl false]))) p3 = some (.lst [V.bl (numV x lo (lo + up)), V.bl (numV x lo (lo + up)), V.bl false]) := upd_same
          have s7 : Same H6 (upd H6 p3 (.lst ([V.bl (numV x lo (lo + up)), V.bl (numV x lo (lo + up))] ++ [V.bl false]))) := Same.new hp3
          generalize upd H6 p3 (.lst ([V.bl (numV x lo (lo + up)), V.bl (numV x lo (lo + up))] ++ [V.bl false])) = H7 at s7 e7 ⊢
          refine ⟨_, rfl, _, rfl, (by show 3 ≤ sizeLine; decide), fun p4 hp4 => ?_⟩
          have e8 : (upd H7 p4 (.lst [V.bl (numV x lo (lo + up)), V.bl (numV x lo (lo + up)), V.bl false])) p4 = some (.lst [V.bl (numV x lo (lo + up)), V.bl (numV x lo (lo + up)), V.bl false]) := upd_same
          refine ⟨.ref p3, .ref p4, rfl, Eqd.lists (SqL.of ((Same.new hp4) _ _ e7)) (SqL.of e8) (by show 3 ≤ 100000; decide) ?_, fun H14 s14 => ⟨true, rfl, iteF ?_⟩⟩
          · exact memc (Eqd.flat rfl) (memc (Eqd.flat rfl) (mem1 (Eqd.flat rfl)))
          have tt : Same H H14 := ((((((s1.trans s2).trans s3).trans s4).trans s5).trans s6).trans s7).trans ((Same.new hp4).trans s14)
          exact ⟨_, _, _, _, _, _, _, _, _, _, _, _, _, rfl, B.same tt, s'.trans (Same.stp tt)⟩
        · rintro σ H ⟨x2, x3, x4, x5, x6, x7, x8, x9, x10, x11, x12, x15, x16, rfl, B, s'⟩
          exact ⟨_, _, _, _, _, _, _, _, _, _, _, _, _, _, _, rfl, B⟩
    · rintro σ H ⟨y2, y3, y4, y5, y6, y7, y8, y9, y10, y11, y12, y13, y14, y15, y16, rfl, B⟩
      -- bounds
      refine ⟨.bl true, 0, 1, b, 3, rfl, .bl, fun H1 s1 => ?_⟩
      refine ⟨.bl false, 0, 1, b, 3, rfl, .bl, fun H2 s2 => ?_⟩
      refine ⟨.bl true, b, 3, rfl, .bl, fun H3 s3 => ?_⟩
      refine ⟨.bl false, b, 3, rfl, .bl, fun H4 s4 => ?_⟩
      refine ⟨.str "abcdef", b, 3, rfl, .lit (by decide +kernel), fun H5 s5 => ?_⟩
      refine ⟨.str "abcdefg", b, 3, rfl, .lit (by decide +kernel), fun H6 s6 => ?_⟩
      have q1 : nmV (.str "abcdef") = true := by decide +kernel
      have q2 : nmV (.str "abcdefg") = false := by decide +kernel
      rw [q1, q2]
      refine ⟨(by show 6 ≤ sizeLine; decide), fun p hp => ?_⟩
      have e7 : (upd H6 p (.lst [V.bl (numV (.bl true) 0 1), V.bl (numV (.bl false) 0 1), V.bl (numV (.bl true) 0 65535), V.bl (numV (.bl false) 0 65535), V.bl true, V.bl false])) p = some (.lst [V.bl false, V.bl false, V.bl false, V.bl false, V.bl true, V.bl false]) := upd_same
      generalize upd H6 p (.lst [V.bl (numV (.bl true) 0 1), V.bl (numV (.bl false) 0 1), V.bl (numV (.bl true) 0 65535), V.bl (numV (.bl false) 0 65535), V.bl true, V.bl false]) = H7 at e7 ⊢
      refine ⟨_, rfl, (by show 6 ≤ sizeLine; decide), fun p2 hp2 => ?_⟩
      refine ⟨.ref p, .ref p2, rfl, Eqd.lists (SqL.of ((Same.new hp2) _ _ e7)) (SqL.of upd_same) (by show 6 ≤ 100000; decide) ?_, fun H14 s14 => k _⟩
      exact memc (Eqd.flat rfl) (memc (Eqd.flat rfl) (memc (Eqd.flat rfl) (memc (Eqd.flat rfl) (memc (Eqd.flat rfl) (mem1 (Eqd.flat rfl))))))
end

/-! ### what the top has written, the head -/
theorem all_mk {l : PySem.W.OpenLaw} {w : World} {K : PySem.W.Frag} {h : Heap} {mg : Str → Option Value} {fa : Addr} (X : K.In h) (G : h.Ns mainGlobals mg) (hfa : mg "law" = some (.ref fa))
    {f_is_name f_is_register f_is_word f_is_number f_law_bag f_law_draw f_law_of f_law_same f_law_odd f_law_is_title f_law_within f_law  q_REGISTERS : Addr}
    {od_is_name an_is_name od_is_register an_is_register od_is_word an_is_word od_is_number an_is_number od_law_bag an_law_bag od_law_draw an_law_draw od_law_of an_law_of od_law_same an_law_same od_law_odd an_law_odd od_law_is_title an_law_is_title od_law_within an_law_within od_law an_law : Option Addr} {sl_is_name sl_is_register sl_is_word sl_is_number sl_law_bag sl_law_draw sl_law_of sl_law_same sl_law_odd sl_law_is_title sl_law_within sl_law : Array (Option Value)} {oc_is_name kV_is_name dc_is_name pm_is_name cd_is_name ct_is_name oc_is_register kV_is_register dc_is_register pm_is_register cd_is_register ct_is_register oc_is_word kV_is_word dc_is_word pm_is_word cd_is_word ct_is_word oc_is_number kV_is_number dc_is_number pm_is_number cd_is_number ct_is_number oc_law_bag kV_law_bag dc_law_bag pm_law_bag cd_law_bag ct_law_bag oc_law_draw kV_law_draw dc_law_draw pm_law_draw cd_law_draw ct_law_draw oc_law_of kV_law_of dc_law_of pm_law_of cd_law_of ct_law_of oc_law_same kV_law_same dc_law_same pm_law_same cd_law_same ct_law_same oc_law_odd kV_law_odd dc_law_odd pm_law_odd cd_law_odd ct_law_odd oc_law_is_title kV_law_is_title dc_law_is_title pm_law_is_title cd_law_is_title ct_law_is_title oc_law_within kV_law_within dc_law_within pm_law_within cd_law_within ct_law_within oc_law kV_law dc_law pm_law cd_law ct_law : Value}
    (a_is_name : PySem.W.nsIn K mainGlobals "is_name" = some (some (.ref f_is_name))) (l_is_name : K.lookup f_is_name = some ⟨oc_is_name, od_is_name, .func (PySem.W.fnOf "is_name" "is_name" (defArgs s_is_name) (defBody s_is_name) (defScope s_is_name) .none kV_is_name dc_is_name pm_is_name an_is_name cd_is_name ct_is_name), sl_is_name⟩) (c_is_name : PySem.W.codeIn K cd_is_name "is_name" = true) (k_is_name : PySem.W.keepIn K (.ref f_is_name) = true)
    (a_is_register : PySem.W.nsIn K mainGlobals "is_register" = some (some (.ref f_is_register))) (l_is_register : K.lookup f_is_register = some ⟨oc_is_register, od_is_register, .func (PySem.W.fnOf "is_register" "is_register" (defArgs s_is_register) (defBody s_is_register) (defScope s_is_register) .none kV_is_register dc_is_register pm_is_register an_is_register cd_is_register ct_is_register), sl_is_register⟩) (c_is_register : PySem.W.codeIn K cd_is_register "is_register" = true) (k_is_register : PySem.W.keepIn K (.ref f_is_register) = true)
    (a_is_word : PySem.W.nsIn K mainGlobals "is_word" = some (some (.ref f_is_word))) (l_is_word : K.lookup f_is_word = some ⟨oc_is_word, od_is_word, .func (PySem.W.fnOf "is_word" "is_word" (defArgs s_is_word) (defBody s_is_word) (defScope s_is_word) .none kV_is_word dc_is_word pm_is_word an_is_word cd_is_word ct_is_word), sl_is_word⟩) (c_is_word : PySem.W.codeIn K cd_is_word "is_word" = true) (k_is_word : PySem.W.keepIn K (.ref f_is_word) = true)
    (a_is_number : PySem.W.nsIn K mainGlobals "is_number" = some (some (.ref f_is_number))) (l_is_number : K.lookup f_is_number = some ⟨oc_is_number, od_is_number, .func (PySem.W.fnOf "is_number" "is_number" (defArgs s_is_number) (defBody s_is_number) (defScope s_is_number) .none kV_is_number dc_is_number pm_is_number an_is_number cd_is_number ct_is_number), sl_is_number⟩) (c_is_number : PySem.W.codeIn K cd_is_number "is_number" = true) (k_is_number : PySem.W.keepIn K (.ref f_is_number) = true)
    (a_law_bag : PySem.W.nsIn K mainGlobals "_law_bag" = some (some (.ref f_law_bag))) (l_law_bag : K.lookup f_law_bag = some ⟨oc_law_bag, od_law_bag, .func (PySem.W.fnOf "_law_bag" "_law_bag" (defArgs s_law_bag) (defBody s_law_bag) (defScope s_law_bag) .none kV_law_bag dc_law_bag pm_law_bag an_law_bag cd_law_bag ct_law_bag), sl_law_bag⟩) (c_law_bag : PySem.W.codeIn K cd_law_bag "_law_bag" = true) (k_law_bag : PySem.W.keepIn K (.ref f_law_bag) = true)
    (a_law_draw : PySem.W.nsIn K mainGlobals "_law_draw" = some (some (.ref f_law_draw))) (l_law_draw : K.lookup f_law_draw = some ⟨oc_law_draw, od_law_draw, .func (PySem.W.fnOf "_law_draw" "_law_draw" (defArgs s_law_draw) (defBody s_law_draw) (defScope s_law_draw) .none kV_law_draw dc_law_draw pm_law_draw an_law_draw cd_law_draw ct_law_draw), sl_law_draw⟩) (c_law_draw : PySem.W.codeIn K cd_law_draw "_law_draw" = true) (k_law_draw : PySem.W.keepIn K (.ref f_law_draw) = true)
    (a_law_of : PySem.W.nsIn K mainGlobals "_law_of" = some (some (.ref f_law_of))) (l_law_of : K.lookup f_law_of = some ⟨oc_law_of, od_law_of, .func (PySem.W.fnOf "_law_of" "_law_of" (defArgs s_law_of) (defBody s_law_of) (defScope s_law_of) .none kV_law_of dc_law_of pm_law_of an_law_of cd_law_of ct_law_of), sl_law_of⟩) (c_law_of : PySem.W.codeIn K cd_law_of "_law_of" = true) (k_law_of : PySem.W.keepIn K (.ref f_law_of) = true)
    (a_law_same : PySem.W.nsIn K mainGlobals "_law_same" = some (some (.ref f_law_same))) (l_law_same : K.lookup f_law_same = some ⟨oc_law_same, od_law_same, .func (PySem.W.fnOf "_law_same" "_law_same" (defArgs s_law_same) (defBody s_law_same) (defScope s_law_same) .none kV_law_same dc_law_same pm_law_same an_law_same cd_law_same ct_law_same), sl_law_same⟩) (c_law_same : PySem.W.codeIn K cd_law_same "_law_same" = true) (k_law_same : PySem.W.keepIn K (.ref f_law_same) = true)
    (a_law_odd : PySem.W.nsIn K mainGlobals "_law_odd" = some (some (.ref f_law_odd))) (l_law_odd : K.lookup f_law_odd = some ⟨oc_law_odd, od_law_odd, .func (PySem.W.fnOf "_law_odd" "_law_odd" (defArgs s_law_odd) (defBody s_law_odd) (defScope s_law_odd) .none kV_law_odd dc_law_odd pm_law_odd an_law_odd cd_law_odd ct_law_odd), sl_law_odd⟩) (c_law_odd : PySem.W.codeIn K cd_law_odd "_law_odd" = true) (k_law_odd : PySem.W.keepIn K (.ref f_law_odd) = true)
    (a_law_is_title : PySem.W.nsIn K mainGlobals "_law_is_title" = some (some (.ref f_law_is_title))) (l_law_is_title : K.lookup f_law_is_title = some ⟨oc_law_is_title, od_law_is_title, .func (PySem.W.fnOf "_law_is_title" "_law_is_title" (defArgs s_law_is_title) (defBody s_law_is_title) (defScope s_law_is_title) .none kV_law_is_title dc_law_is_title pm_law_is_title an_law_is_title cd_law_is_title ct_law_is_title), sl_law_is_title⟩) (c_law_is_title : PySem.W.codeIn K cd_law_is_title "_law_is_title" = true) (k_law_is_title : PySem.W.keepIn K (.ref f_law_is_title) = true)
    (a_law_within : PySem.W.nsIn K mainGlobals "_law_within" = some (some (.ref f_law_within))) (l_law_within : K.lookup f_law_within = some ⟨oc_law_within, od_law_within, .func (PySem.W.fnOf "_law_within" "_law_within" (defArgs s_law_within) (defBody s_law_within) (defScope s_law_within) .none kV_law_within dc_law_within pm_law_within an_law_within cd_law_within ct_law_within), sl_law_within⟩) (c_law_within : PySem.W.codeIn K cd_law_within "_law_within" = true) (k_law_within : PySem.W.keepIn K (.ref f_law_within) = true)
    (a_law : PySem.W.nsIn K mainGlobals "law" = some (some (.ref f_law))) (l_law : K.lookup f_law = some ⟨oc_law, od_law, .func (PySem.W.fnOf "law" "law" (defArgs s_law) (defBody s_law) (defScope s_law) .none kV_law dc_law pm_law an_law cd_law ct_law), sl_law⟩) (c_law : PySem.W.codeIn K cd_law "law" = true) (k_law : PySem.W.keepIn K (.ref f_law) = true)
    (n_abs : PySem.W.nsIn K mainGlobals "abs" = some none)
    (n_all : PySem.W.nsIn K mainGlobals "all" = some none)
    (n_bool : PySem.W.nsIn K mainGlobals "bool" = some none)
    (n_int : PySem.W.nsIn K mainGlobals "int" = some none)
    (n_isinstance : PySem.W.nsIn K mainGlobals "isinstance" = some none)
    (n_len : PySem.W.nsIn K mainGlobals "len" = some none)
    (n_list : PySem.W.nsIn K mainGlobals "list" = some none)
    (n_range : PySem.W.nsIn K mainGlobals "range" = some none)
    (n_str : PySem.W.nsIn K mainGlobals "str" = some none)
    (n_tuple : PySem.W.nsIn K mainGlobals "tuple" = some none)
    (n_zip : PySem.W.nsIn K mainGlobals "zip" = some none)
    {tk_MOST_LETTERS : Tok} (g_MOST_LETTERS : PySem.W.nsIn K mainGlobals "MOST_LETTERS" = some (some (.int 6 tk_MOST_LETTERS)))
    {tk_MOST_WORD : Tok} (g_MOST_WORD : PySem.W.nsIn K mainGlobals "MOST_WORD" = some (some (.int 65535 tk_MOST_WORD)))
    (g_REGISTERS : PySem.W.nsIn K mainGlobals "REGISTERS" = some (some (.ref q_REGISTERS)))
    {qi_REGISTERS : Array Value} {qn_REGISTERS : Nat} {qs_REGISTERS : Array (Option Value)} (v_REGISTERS : K.lookup q_REGISTERS = some ⟨.type "tuple", none, .seq qi_REGISTERS qn_REGISTERS, qs_REGISTERS⟩) (w_REGISTERS : Vals [.str "r0", .str "r1", .str "r2"] qi_REGISTERS.toList)
    : ∃ fd : FuncData, (∀ (s : Shared) (v : Value), BindsTo s fd ⟨[v], []⟩ [("_law_script", v)]) ∧ ∀ base : Heap, K.In base → base.Ns mainGlobals mg → FnOk l.prog w K mg base CX0 4 fa fd ["_law_script"] (sp_law K) := by
  have e := hfa.symm.trans (PySem.W.mg_of X G a_law)
  cases e
  have F_is_name := fun_mk (st := s_is_name) l_is_name c_is_name k_is_name
  have F_is_register := fun_mk (st := s_is_register) l_is_register c_is_register k_is_register
  have F_is_word := fun_mk (st := s_is_word) l_is_word c_is_word k_is_word
  have F_is_number := fun_mk (st := s_is_number) l_is_number c_is_number k_is_number
  have F_law_bag := fun_mk (st := s_law_bag) l_law_bag c_law_bag k_law_bag
  have F_law_draw := fun_mk (st := s_law_draw) l_law_draw c_law_draw k_law_draw
  have F_law_of := fun_mk (st := s_law_of) l_law_of c_law_of k_law_of
  have F_law_same := fun_mk (st := s_law_same) l_law_same c_law_same k_law_same
  have F_law_odd := fun_mk (st := s_law_odd) l_law_odd c_law_odd k_law_odd
  have F_law_is_title := fun_mk (st := s_law_is_title) l_law_is_title c_law_is_title k_law_is_title
  have F_law_within := fun_mk (st := s_law_within) l_law_within c_law_within k_law_within
  have F_law := fun_mk (st := s_law) l_law c_law k_law
  let Z : Fs := ⟨f_is_name, PySem.W.fnOf "is_name" "is_name" (defArgs s_is_name) (defBody s_is_name) (defScope s_is_name) .none kV_is_name dc_is_name pm_is_name an_is_name cd_is_name ct_is_name, f_is_register, PySem.W.fnOf "is_register" "is_register" (defArgs s_is_register) (defBody s_is_register) (defScope s_is_register) .none kV_is_register dc_is_register pm_is_register an_is_register cd_is_register ct_is_register, f_is_word, PySem.W.fnOf "is_word" "is_word" (defArgs s_is_word) (defBody s_is_word) (defScope s_is_word) .none kV_is_word dc_is_word pm_is_word an_is_word cd_is_word ct_is_word, f_is_number, PySem.W.fnOf "is_number" "is_number" (defArgs s_is_number) (defBody s_is_number) (defScope s_is_number) .none kV_is_number dc_is_number pm_is_number an_is_number cd_is_number ct_is_number, f_law_bag, PySem.W.fnOf "_law_bag" "_law_bag" (defArgs s_law_bag) (defBody s_law_bag) (defScope s_law_bag) .none kV_law_bag dc_law_bag pm_law_bag an_law_bag cd_law_bag ct_law_bag, f_law_draw, PySem.W.fnOf "_law_draw" "_law_draw" (defArgs s_law_draw) (defBody s_law_draw) (defScope s_law_draw) .none kV_law_draw dc_law_draw pm_law_draw an_law_draw cd_law_draw ct_law_draw, f_law_of, PySem.W.fnOf "_law_of" "_law_of" (defArgs s_law_of) (defBody s_law_of) (defScope s_law_of) .none kV_law_of dc_law_of pm_law_of an_law_of cd_law_of ct_law_of, f_law_same, PySem.W.fnOf "_law_same" "_law_same" (defArgs s_law_same) (defBody s_law_same) (defScope s_law_same) .none kV_law_same dc_law_same pm_law_same an_law_same cd_law_same ct_law_same, f_law_odd, PySem.W.fnOf "_law_odd" "_law_odd" (defArgs s_law_odd) (defBody s_law_odd) (defScope s_law_odd) .none kV_law_odd dc_law_odd pm_law_odd an_law_odd cd_law_odd ct_law_odd, f_law_is_title, PySem.W.fnOf "_law_is_title" "_law_is_title" (defArgs s_law_is_title) (defBody s_law_is_title) (defScope s_law_is_title) .none kV_law_is_title dc_law_is_title pm_law_is_title an_law_is_title cd_law_is_title ct_law_is_title, f_law_within, PySem.W.fnOf "_law_within" "_law_within" (defArgs s_law_within) (defBody s_law_within) (defScope s_law_within) .none kV_law_within dc_law_within pm_law_within an_law_within cd_law_within ct_law_within, fa, PySem.W.fnOf "law" "law" (defArgs s_law) (defBody s_law) (defScope s_law) .none kV_law dc_law pm_law an_law cd_law ct_law, q_REGISTERS⟩
  have T : Txt K w mg Z := ⟨F_is_name,
    PySem.W.mg_of X G a_is_name,
    F_is_name.binds (ps := ["value"]) fun _ _ _ _ _ _ us hl => match us, hl with | [_], _ => rfl,
    kbn_k_is_name_0_value F_is_name,
    F_is_register,
    PySem.W.mg_of X G a_is_register,
    F_is_register.binds (ps := ["value"]) fun _ _ _ _ _ _ us hl => match us, hl with | [_], _ => rfl,
    kbn_k_is_register_0_value F_is_register,
    F_is_word,
    PySem.W.mg_of X G a_is_word,
    F_is_word.binds (ps := ["value"]) fun _ _ _ _ _ _ us hl => match us, hl with | [_], _ => rfl,
    kbn_k_is_word_0_value F_is_word,
    F_is_number,
    PySem.W.mg_of X G a_is_number,
    F_is_number.binds (ps := ["value", "least", "most"]) fun _ _ _ _ _ _ us hl => match us, hl with | [_, _, _], _ => rfl,
    kbn_k_is_number_0_most_least_value F_is_number,
    F_law_bag,
    PySem.W.mg_of X G a_law_bag,
    F_law_bag.binds (ps := ["_law_script"]) fun _ _ _ _ _ _ us hl => match us, hl with | [_], _ => rfl,
    F_law_draw,
    PySem.W.mg_of X G a_law_draw,
    F_law_draw.binds (ps := ["_law_bag_here", "_law_sides"]) fun _ _ _ _ _ _ us hl => match us, hl with | [_, _], _ => rfl,
    F_law_of,
    PySem.W.mg_of X G a_law_of,
    F_law_of.binds (ps := ["_law_bag_here", "_law_things"]) fun _ _ _ _ _ _ us hl => match us, hl with | [_, _], _ => rfl,
    F_law_same,
    PySem.W.mg_of X G a_law_same,
    F_law_same.binds (ps := ["_law_found", "_law_due"]) fun _ _ _ _ _ _ us hl => match us, hl with | [_, _], _ => rfl,
    F_law_odd,
    PySem.W.mg_of X G a_law_odd,
    F_law_odd.binds (ps := ["_law_bag_here", "_law_more"]) fun _ _ _ _ _ _ us hl => match us, hl with | [_, _], _ => rfl,
    F_law_is_title,
    PySem.W.mg_of X G a_law_is_title,
    F_law_is_title.binds (ps := ["_law_thing"]) fun _ _ _ _ _ _ us hl => match us, hl with | [_], _ => rfl,
    F_law_within,
    PySem.W.mg_of X G a_law_within,
    F_law_within.binds (ps := ["_law_thing", "_law_low_y", "_law_high_y"]) fun _ _ _ _ _ _ us hl => match us, hl with | [_, _, _], _ => rfl,
    F_law,
    PySem.W.mg_of X G a_law,
    F_law.binds (ps := ["_law_script"]) fun _ _ _ _ _ _ us hl => match us, hl with | [_], _ => rfl,
    PySem.W.mg_none_of X G n_abs,
    PySem.W.mg_none_of X G n_all,
    PySem.W.mg_none_of X G n_bool,
    PySem.W.mg_none_of X G n_int,
    PySem.W.mg_none_of X G n_isinstance,
    PySem.W.mg_none_of X G n_len,
    PySem.W.mg_none_of X G n_list,
    PySem.W.mg_none_of X G n_range,
    PySem.W.mg_none_of X G n_str,
    PySem.W.mg_none_of X G n_tuple,
    PySem.W.mg_none_of X G n_zip,
    ⟨_, PySem.W.mg_of X G g_MOST_LETTERS⟩,
    ⟨_, PySem.W.mg_of X G g_MOST_WORD⟩,
    PySem.W.mg_of X G g_REGISTERS,
    fun _ => .inr ⟨_, _, _, v_REGISTERS, rfl, rfl, (Nat.le_trans (Nat.le_of_eq (Array.length_toList.symm.trans w_REGISTERS.length.symm)) (by show 3 ≤ sizeLine; decide)), w_REGISTERS⟩,
    ⟨_, v_REGISTERS, rfl, rfl⟩⟩
  exact ⟨Z.d_law, fun s v => .of_eq rfl, fun base _ _ => ok_law T⟩
end Kk
open PySem PySem.W PyProof.Rows
set_option maxRecDepth 100000 in
set_option maxHeartbeats 0 in
theorem PySem.Challenge.cw_leastimage_k01_words_and_numbers_judged_holds : PySem.Challenge.rw_leastimage_k01_words_and_numbers_judged.Holds := by
  w_on; o_law; k_head; (case hw => w_witness2)
  k_fill
  refine L2.walk_of (l := PySem.Challenge.rw_leastimage_k01_words_and_numbers_judged) (n := 63) (k := 4) (x := "_law_script") (CX := fun _ => L2.CX0) (sp := fun w => Kk.sp_law _) rfl (by decide) rfl ⟨rfl, by decide, by decide⟩ (fun w h Y => PySem.W.kIn_of Y) ?F (fun _ _ a ns hl _ hS => ⟨a, ns, rfl, hS, hl, fun _ => rfl⟩) (fun _ _ _ _ _ h => h)
  case F =>
    intro w mg fa h KX G hmg
    refine' Kk.all_mk KX G hmg ?a_is_name ?l_is_name ?c_is_name ?k_is_name ?a_is_register ?l_is_register ?c_is_register ?k_is_register ?a_is_word ?l_is_word ?c_is_word ?k_is_word ?a_is_number ?l_is_number ?c_is_number ?k_is_number ?a_law_bag ?l_law_bag ?c_law_bag ?k_law_bag ?a_law_draw ?l_law_draw ?c_law_draw ?k_law_draw ?a_law_of ?l_law_of ?c_law_of ?k_law_of ?a_law_same ?l_law_same ?c_law_same ?k_law_same ?a_law_odd ?l_law_odd ?c_law_odd ?k_law_odd ?a_law_is_title ?l_law_is_title ?c_law_is_title ?k_law_is_title ?a_law_within ?l_law_within ?c_law_within ?k_law_within ?a_law ?l_law ?c_law ?k_law ?n_abs ?n_all ?n_bool ?n_int ?n_isinstance ?n_len ?n_list ?n_range ?n_str ?n_tuple ?n_zip ?g_MOST_LETTERS ?g_MOST_WORD ?g_REGISTERS ?v_REGISTERS ?w_REGISTERS
    (case a_is_name => k_is)
    (case l_is_name => k_is)
    (case c_is_name => k_is)
    (case k_is_name => k_is)
    (case a_is_register => k_is)
    (case l_is_register => k_is)
    (case c_is_register => k_is)
    (case k_is_register => k_is)
    (case a_is_word => k_is)
    (case l_is_word => k_is)
    (case c_is_word => k_is)
    (case k_is_word => k_is)
    (case a_is_number => k_is)
    (case l_is_number => k_is)
    (case c_is_number => k_is)
    (case k_is_number => k_is)
    (case a_law_bag => k_is)
    (case l_law_bag => k_is)
    (case c_law_bag => k_is)
    (case k_law_bag => k_is)
    (case a_law_draw => k_is)
    (case l_law_draw => k_is)
    (case c_law_draw => k_is)
    (case k_law_draw => k_is)
    (case a_law_of => k_is)
    (case l_law_of => k_is)
    (case c_law_of => k_is)
    (case k_law_of => k_is)
    (case a_law_same => k_is)
    (case l_law_same => k_is)
    (case c_law_same => k_is)
    (case k_law_same => k_is)
    (case a_law_odd => k_is)
    (case l_law_odd => k_is)
    (case c_law_odd => k_is)
    (case k_law_odd => k_is)
    (case a_law_is_title => k_is)
    (case l_law_is_title => k_is)
    (case c_law_is_title => k_is)
    (case k_law_is_title => k_is)
    (case a_law_within => k_is)
    (case l_law_within => k_is)
    (case c_law_within => k_is)
    (case k_law_within => k_is)
    (case a_law => k_is)
    (case l_law => k_is)
    (case c_law => k_is)
    (case k_law => k_is)
    (case n_abs => k_is)
    (case n_all => k_is)
    (case n_bool => k_is)
    (case n_int => k_is)
    (case n_isinstance => k_is)
    (case n_len => k_is)
    (case n_list => k_is)
    (case n_range => k_is)
    (case n_str => k_is)
    (case n_tuple => k_is)
    (case n_zip => k_is)
    (case g_MOST_LETTERS => k_is)
    (case g_MOST_WORD => k_is)
    (case g_REGISTERS => k_is)
    (case v_REGISTERS => k_is)
    (case w_REGISTERS => exact (.cons ⟨_, rfl⟩ (.cons ⟨_, rfl⟩ (.cons ⟨_, rfl⟩ .nil))))

