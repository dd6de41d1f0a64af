import PyProof.Rows.All
import Wide.All
import OpenK.AllK
import Wide.FinOn
import HandS.ForMost
import HandS.Walk
import HandS.IsInst
import HandS.Zip
import HandS.Style
import HandS.Codes
import HandS.Defaults
import HandS.Evl
import HandS.More
import HandS.Strs
import HandS.FStr
import HandS.MakeKw
import HandS.MakeKwOnly
import HandS.OwnEq
import HandS.Property
import HandS.Star
import HandS.RaiseMore
import HandS.StrMore
import HandS.Text
import KE.GoesEnum
import KE.GoesMore
import KE.RegKIsAll
import KE.IntTextText
import KE.KIntText
import KE.OsScanText
import PySem.Challenge.RW_leastimage_k03_whole_texts_of_rows
set_option Elab.async false
set_option maxRecDepth 100000
set_option maxHeartbeats 4000000
set_option linter.all false
namespace Kk
open PySem L2 PyProof.Rows
/-! ### a star in a target: a, *b = a list -/
section
variable {prog : Program} {w : World} {A : Around} {E : Value → Shared → Prop} {s : Shared}
theorem walks_li (hh : A.handled = none) {it l : Addr} (hne : l ≠ it) {y : Value} {ys : List Value} :
    WalksS prog w A it [it, l] [it] (fun a b => b = a) ys.length (fun i v => ys[i]? = some v) (fun i s => s.heap.IsListIter it l (i + 1) ∧ s.heap.IsList l (y :: ys).toArray) where
  sub := fun b hb => by rw [List.mem_singleton.mp hb]; simp
  grefl := fun _ => rfl
  gtrans := fun _ _ _ h1 h2 => h2.trans h1
  frame := fun i s h' tk st _ hk => ⟨st.1.at fun o e => hk it (by simp) o e, st.2.at fun o e => hk l (by simp) o e⟩
  item := fun i s Q E hi st hQ => by
    refine wpAny_pyNext_list_item st.1 st.2 (x := ys[i]) (by simp [hi]) fun h' hit' hs' => ?_
    exact hQ _ _ (by simp [hi]) ⟨hit', st.2.extBut hs'.extBut hne⟩ ⟨fun b o hb e => hs'.extBut b o (by simpa using hb) e, rfl, rfl, rfl, Nat.le_refl _⟩
  done := fun s Q E st hQ => by
    refine wpAny_pyNext_list_end hh st.1 st.2 (by simp) fun h' hs' => ?_
    exact hQ _ ⟨fun b o hb e => hs' b o (by simpa using hb) e, rfl, rfl, rfl, Nat.le_refl _⟩
  self := fun i s Q E st hQ => wpAny_pyIter_listiter st.1 hQ
theorem unpack_listS {l : Addr} {y : Value} {ys : List Value} {Q : List Value → Shared → Prop} (hh : A.handled = none) (hl : s.heap.IsList l (y :: ys).toArray) (hz : ys.length ≤ sizeLine)
    (hQ : ∀ (h' : Heap) (tk : Nat), (∀ b o, s.heap.get? b = some o → h'.get? b = some o) → Q [y, .ref h'.objs.size] { s with heap := h'.push { cls := .type "list", data := .seq ys.toArray }, toks := tk }) :
    wpAny (model prog w) A (unpackItems (.ref l) 2 (some 1)) Q E s := by
  have hlt : l ≠ s.heap.objs.size := by obtain ⟨o, ho, _⟩ := hl; exact Nat.ne_of_lt (Heap.lt_size ho)
  unfold unpackItems
  refine wpAny_bind ?_
  unfold notIterableAtAll
  refine wpAny_bind (wpAny_specialOf hl.typeIs PySem.F.slot_list_iter.lookup ?_)
  refine wpAny_pure ?_
  simp only [Bool.false_eq_true, if_false]
  refine wpAny_bind (wpAny_holding (wpAny_pyIter_list hl ?_))
  refine wpAny_bind (wpAny_holding ?_)
  show wpAny _ _ (pyNext (.ref s.heap.objs.size) >>= _) _ _ _
  refine wpAny_bind (wpAny_pyNext_list_item (l := l) (i := 0) (x := y) ⟨_, Heap.get?_push_size _ rfl, rfl, rfl⟩ (hl.push _) (by simp) fun h1 hit1 hs1 => ?_)
  refine wpAny_bind (wpAny_holding (wpAny_pure (wpAny_pure ?_)))
  rw [if_neg (by simp)]
  refine wpAny_bind (wpAny_holding ?_)
  have hl1 : h1.IsList l (y :: ys).toArray := (hl.push _).extBut hs1.extBut hlt
  have k1 : ∀ b o, s.heap.get? b = some o → h1.get? b = some o := fun b o e => hs1.extBut b o (Nat.ne_of_lt (Heap.lt_size e)) (Heap.get?_push_of_some _ e)
  have sz : s.heap.objs.size < h1.objs.size := by obtain ⟨o, ho, _⟩ := hit1; exact Heap.lt_size ho
  have sl : l < h1.objs.size := by obtain ⟨o, ho, _⟩ := hl1; exact Heap.lt_size ho
  refine wpAny_collect_iter (.inr (.inr (.inl rfl))) (walks_li (prog := prog) (w := w) (A := A.in1) (by exact hh) hlt (y := y) (ys := ys)) (fun i s st => ?_) ⟨hit1, hl1⟩ (fun b hb => ?_) (by simp) (fun s' acc mv hacc => ?_) hz
  · obtain ⟨o, ho, hc, _⟩ := st.1
    exact ⟨o, ho, hc⟩
  · simp only [List.mem_cons, List.not_mem_nil, or_false] at hb
    rcases hb with rfl | rfl
    · exact sz
    · exact sl
  · have ea : acc.toList = ys := by
      obtain ⟨e1, e2⟩ := hacc
      refine List.ext_getElem (by simpa using e1) fun i h1 h2 => ?_
      have q : ys[i]? = some acc[i] := e2 i acc[i] (by simp)
      rw [List.getElem?_eq_getElem h2] at q
      exact (Option.some.inj q).symm
    rw [ea, if_neg (by simp), show ys.length - (2 - 1 - 1) = ys.length from rfl, List.take_length, List.drop_length]
    refine wpAny_bind (wpAny_newList (wpAny_pure ?_) hz)
    have k2 : ∀ b o, s.heap.get? b = some o → s'.heap.get? b = some o := fun b o e => mv.heap b o (by simpa using Nat.ne_of_lt (Heap.lt_size e)) (k1 b o e)
    have z := hQ s'.heap s'.toks k2
    obtain ⟨h', g', d', t', o'⟩ := s'
    obtain ⟨_, m2, m3, m4, _⟩ := mv
    cases m2
    cases m3
    cases m4
    exact z
end
/-- [a, *b] = a list -/
def gTupS (K : PySem.W.Frag) (t : TGs) : TG := fun v σ H Q => ∃ a y xs, v = .ref a ∧ SqL K H a (y :: xs) ∧ ∀ p, H p = none → t [y, .ref p] σ (upd H p (.lst xs)) Q
section
variable {X : Cx} {pos : Pos}
theorem pg_tupS {es : List Expr} {k : Nat} {t : TGs} (hc : X.calm = true) (h : PGs X es t)
    (hn : (assignEach es X.env).length = 2 := by rfl) (hst : (assignEach es X.env).findIdx? (·.1) = some 1 := by rfl) : PG X (.Tuple es k pos) (gTupS X.K t) := by
  refine ⟨fun pins s σ H v u Q I r hw => ?_⟩
  obtain ⟨a, y, xs, e1, hq, hw⟩ := hw
  subst e1
  cases r
  obtain ⟨its, rv, pl, hz⟩ := I.list hq
  cases rv with
  | @cons _ u1 _ us r1 rr =>
    have hzu : us.length ≤ sizeLine := by rw [← rr.length]; exact Nat.le_trans (Nat.le_succ _) hz
    rw [arm_assign_Tuple]
    refine wpAny_bind (wpAny_standAt ?_)
    unfold unpack
    rw [hn, hst]
    refine wpAny_bind (wpAny_holding (unpack_listS (I.ok.hd hc) pl.isList hzu fun h' tk kp => ?_))
    have I1 : Inv X pins σ H { s with heap := h', toks := tk } := I.kept (t' := tk) kp
    have hf : H h'.objs.size = none := I1.hok.fresh (Nat.le_refl _)
    have I2 : Inv X pins σ (upd H h'.objs.size (.lst xs)) { s with heap := h'.push { cls := .type "list", data := .seq us.toArray }, toks := tk } :=
      I1.laid (t' := tk) (fun b u e => Heap.get?_push_of_some _ e) (Nat.le_refl _) ⟨Nat.le_trans (Nat.le_succ _) hz, us, 0, rr, Heap.get?_push_size _ rfl⟩
    exact h.run pins _ σ _ [y, .ref h'.objs.size] _ Q I2 (.cons r1 (.cons rfl .nil)) (hw _ hf)
theorem pgs_star {e : Expr} {es : List Expr} {t : TG} {u : TGs} {p : Pos} (h1 : PG X e t) (h2 : PGs X es u)
    (hs : (assignEach (.Starred e p :: es) X.env).map (·.2) = assign e X.env :: (assignEach es X.env).map (·.2) := by rfl) : PGs X (.Starred e p :: es) (gCons t u) := by
  refine ⟨fun pins s σ H vs us Q I r h => ?_⟩
  obtain ⟨v, vr, e1, h⟩ := h
  subst e1
  cases r with
  | cons r rr =>
    rw [hs]
    refine assignInOrder_cons (thn (h1.run pins s σ H _ _ _ I r h) fun _ s1 ⟨σ1, H1, I1, q1⟩ => ?_)
    exact h2.run pins s1 σ1 H1 _ _ Q I1 rr q1
end
/-! ### str(a text or a number); get on a table of the module -/
section
variable {X : Cx}
theorem call_strA : CallR X (.type "str") (fun xs H Q => (∃ a, xs = [.str a] ∧ Q (.str a) H) ∨ ∃ i, xs = [.int i] ∧ i.natAbs.log2 < 1920 ∧ Q (.str (toString i)) H) := by
  intro pins s σ H xs us Q I r h
  rcases h with h | h
  · exact SkE.call_str_str pins s σ H xs us Q I r h
  · exact call_str_int pins s σ H xs us Q I r h
def tKGet (K : PySem.W.Frag) (d : Addr) (td ty : TE) : TE := fun σ H Q => td σ H fun x H1 => x = .ref d ∧ ty σ H1 fun y H2 => ∃ (z : Str) (r : Option Value), y = .str z ∧ PySem.W.nsIn K d z = some r ∧ (∀ u, r = some u → ∃ v, RelV v u ∧ Q v H2) ∧ (r = none → Q .non H2)
theorem pe_kget {o e : Expr} {apos cpos : Pos} {td ty : TE} {d : Addr} {es : Array DictEntry} {n : Nat} (D : KDict X.K X.w d es n) (ho : PE X o td) (he : PE X e ty) (m : M1 X o "get" apos e cpos) : PE X (.Call (.Attribute o "get" apos) [e] [] cpos) (tKGet X.K d td ty) := by
  refine ⟨fun pins s σ H Q I h => ?_⟩
  refine wpAny_Call_method m.base m.few m.line PySem.F.plainAttrs_dict PySem.F.slot_dict_get PySem.F.type_dict_get (thn (ho.run pins s σ H _ I h) fun u s1 ⟨x, H1, I1, rx, ex, q1⟩ => ?_)
  subst ex
  obtain rfl : u = Value.ref d := rx
  have hm := PySem.W.mapOf_K (prog := X.prog) (w := X.w) I1.kIn D.at_ D.lit
  refine ⟨hm.typeIs, fun b q => ?_, ?_⟩
  · cases q
    exact ⟨_, I1.kIn _ _ D.at_, rfl⟩
  rw [m.trees]
  refine Calls.callWith_builtin rfl (Calls.evalArgs_plain (Calls.spliced_cons (thn (he.run pins s1 σ H1 _ I1 q1) fun iv s2 ⟨y, H2, I2, ry, z, r, ey, e, g1, g2⟩ => Calls.spliced_nil ?_)))
  subst ey
  obtain ⟨t, rfl⟩ := ry
  have hm2 := PySem.W.mapOf_K (prog := X.prog) (w := X.w) I2.kIn D.at_ D.lit
  refine call_meetsIn PySem.F.slot_dict_get hm2.typeIs PySem.F.entry_dict_get (PySem.F.args_dict_get_2 _ _) (meets_dict_get (strKind X.prog X.w) d (PySem.strKind_is X.prog X.w z t) D.low) ⟨_, hm2, ?_⟩
  rw [PySem.W.find_K D.at_ e]
  cases r with
  | none => exact ⟨.non, H2, I2.tok _, rfl, g2 rfl⟩
  | some u =>
    obtain ⟨v, rv, q⟩ := g1 u rfl
    exact ⟨v, H2, I2.tok _, rv, q⟩
end

/-! ### the text by places, what the top has written -/
/-- a table of the text: the first entry of a word -/
def findT {α : Type} (l : List (Str × α)) (z : Str) : Option α := (l.find? fun p => decide (p.1 = z)).map (·.2)
def RelOpt {α : Type} (R : α → Value → Prop) : Option α → Option Value → Prop
  | some x, some u => R x u
  | none, none => True
  | _, _ => False
def RelTu (K : PySem.W.Frag) (xs : List V) (u : Value) : Prop := ∃ t, u = .ref t ∧ ∀ H : Hp, SqT K H t xs
theorem find_rel {α : Type} {R : α → Value → Prop} : ∀ {l : List (Str × α)} {m : List (Str × Value)}, Paired (fun (p : Str × α) (q : Str × Value) => p.1 = q.1 ∧ R p.2 q.2) l m → ∀ z, RelOpt R (findT l z) (findT m z)
  | _, _, .nil, _ => trivial
  | p :: l, q :: m, .cons r t, z => by
    unfold findT
    rw [List.find?_cons, List.find?_cons, ← r.1]
    cases decide (p.1 = z) with
    | true => exact r.2
    | false => exact find_rel t z
theorem nsIn_of {K : PySem.W.Frag} {c : Addr} {ty : Value} {dd : Option Addr} {es : Array DictEntry} {n : Nat} {sl : Array (Option Value)} (h : K.lookup c = some ⟨ty, dd, .dict es n, sl⟩) {L : List (Str × Value)}
    (e : Paired (fun (d : DictEntry) (p : Str × Value) => (∃ t, d.key = .str p.1 t) ∧ d.val = p.2) es.toList L) (z : Str) : PySem.W.nsIn K c z = some (findT L z) := by
  unfold PySem.W.nsIn
  rw [h]
  dsimp only
  have k : ∀ (l : List DictEntry) (L : List (Str × Value)), Paired (fun (d : DictEntry) (p : Str × Value) => (∃ t, d.key = .str p.1 t) ∧ d.val = p.2) l L → (l.find? (·.key.isStr z)).map (·.val) = findT L z ∧ l.any (·.refKey) = false := by
    intro l L e
    induction e with
    | nil => exact ⟨rfl, rfl⟩
    | @cons d p l L r _ ih =>
      obtain ⟨⟨t, hk⟩, hv⟩ := r
      have e1 : d.key.isStr z = decide (p.1 = z) := by
        rw [hk]
        show (p.1 == z) = decide (p.1 = z)
        rw [Bool.eq_iff_iff]
        simp
      have e2 : d.refKey = false := by
        unfold DictEntry.refKey
        rw [hk]
      refine ⟨?_, by rw [List.any_cons, e2, ih.2]; rfl⟩
      unfold findT at ih ⊢
      rw [List.find?_cons, List.find?_cons, e1]
      cases decide (p.1 = z) with
      | true => exact congrArg some hv
      | false => exact ih.1
  obtain ⟨k1, k2⟩ := k _ _ e
  cases q : es.toList.find? (·.key.isStr z) with
  | some d =>
    rw [q] at k1
    rw [← k1]
    rfl
  | none =>
    rw [q] at k1
    rw [← k1]
    simp [k2]
def top (i : Nat) : Stmt := PySem.Challenge.pw_leastimage_k03_whole_texts_of_rows.main.body.getD i (.Pass ⟨0, 0, 0, 0⟩)
abbrev s_is_name : Stmt := top 4
abbrev N_is_name : List Str := ["value", "letter"]
theorem sc_is_name : FnScope N_is_name ["value"] (defScope s_is_name) := ⟨rfl, rfl, rfl, by decide +kernel, rfl, by decide +kernel, by decide +kernel⟩
abbrev s_is_register : Stmt := top 5
abbrev N_is_register : List Str := ["value"]
theorem sc_is_register : FnScope N_is_register ["value"] (defScope s_is_register) := ⟨rfl, rfl, rfl, by decide +kernel, rfl, by decide +kernel, by decide +kernel⟩
abbrev s_is_number : Stmt := top 6
abbrev N_is_number : List Str := ["value", "least", "most"]
theorem sc_is_number : FnScope N_is_number ["value", "least", "most"] (defScope s_is_number) := ⟨rfl, rfl, rfl, by decide +kernel, rfl, by decide +kernel, by decide +kernel⟩
abbrev s_read_number : Stmt := top 7
abbrev N_read_number : List Str := ["text"]
theorem sc_read_number : FnScope N_read_number ["text"] (defScope s_read_number) := ⟨rfl, rfl, rfl, by decide +kernel, rfl, by decide +kernel, by decide +kernel⟩
abbrev s_is_code_row : Stmt := top 12
abbrev N_is_code_row : List Str := ["value", "word"]
theorem sc_is_code_row : FnScope N_is_code_row ["value"] (defScope s_is_code_row) := ⟨rfl, rfl, rfl, by decide +kernel, rfl, by decide +kernel, by decide +kernel⟩
abbrev s_is_data_row : Stmt := top 13
abbrev N_is_data_row : List Str := ["value", "word"]
theorem sc_is_data_row : FnScope N_is_data_row ["value"] (defScope s_is_data_row) := ⟨rfl, rfl, rfl, by decide +kernel, rfl, by decide +kernel, by decide +kernel⟩
abbrev s_row_text : Stmt := top 14
abbrev N_row_text : List Str := ["row", "item"]
theorem sc_row_text : FnScope N_row_text ["row"] (defScope s_row_text) := ⟨rfl, rfl, rfl, by decide +kernel, rfl, by decide +kernel, by decide +kernel⟩
abbrev s_read_row : Stmt := top 15
abbrev N_read_row : List Str := ["text", "word", "texts", "kinds", "row", "item", "kind"]
theorem sc_read_row : FnScope N_read_row ["text"] (defScope s_read_row) := ⟨rfl, rfl, rfl, by decide +kernel, rfl, by decide +kernel, by decide +kernel⟩
abbrev s_word_of : Stmt := top 16
abbrev N_word_of : List Str := ["value"]
theorem sc_word_of : FnScope N_word_of ["value"] (defScope s_word_of) := ⟨rfl, rfl, rfl, by decide +kernel, rfl, by decide +kernel, by decide +kernel⟩
abbrev s_kinds_of : Stmt := top 17
abbrev N_kinds_of : List Str := ["word"]
theorem sc_kinds_of : FnScope N_kinds_of ["word"] (defScope s_kinds_of) := ⟨rfl, rfl, rfl, by decide +kernel, rfl, by decide +kernel, by decide +kernel⟩
abbrev s_fit : Stmt := top 18
abbrev N_fit : List Str := ["items", "kinds", "item", "kind"]
theorem sc_fit : FnScope N_fit ["items", "kinds"] (defScope s_fit) := ⟨rfl, rfl, rfl, by decide +kernel, rfl, by decide +kernel, by decide +kernel⟩
abbrev s_fits : Stmt := top 19
abbrev N_fits : List Str := ["item", "kind", "least", "most"]
theorem sc_fits : FnScope N_fits ["item", "kind"] (defScope s_fits) := ⟨rfl, rfl, rfl, by decide +kernel, rfl, by decide +kernel, by decide +kernel⟩
abbrev s_read_item : Stmt := top 20
abbrev N_read_item : List Str := ["text", "kind"]
theorem sc_read_item : FnScope N_read_item ["text", "kind"] (defScope s_read_item) := ⟨rfl, rfl, rfl, by decide +kernel, rfl, by decide +kernel, by decide +kernel⟩
abbrev s_law_bag : Stmt := top 22
abbrev N_law_bag : List Str := ["_law_script", "_law_mixed_here", "_law_piled"]
theorem sc_law_bag : FnScope N_law_bag ["_law_script"] (defScope s_law_bag) := ⟨rfl, rfl, rfl, by decide +kernel, rfl, by decide +kernel, by decide +kernel⟩
abbrev s_law_draw : Stmt := top 23
abbrev N_law_draw : List Str := ["_law_bag_here", "_law_sides", "_law_piled", "_law_digit", "_law_seed"]
theorem sc_law_draw : FnScope N_law_draw ["_law_bag_here", "_law_sides"] (defScope s_law_draw) := ⟨rfl, rfl, rfl, by decide +kernel, rfl, by decide +kernel, by decide +kernel⟩
abbrev s_law_of : Stmt := top 24
abbrev N_law_of : List Str := ["_law_bag_here", "_law_things"]
theorem sc_law_of : FnScope N_law_of ["_law_bag_here", "_law_things"] (defScope s_law_of) := ⟨rfl, rfl, rfl, by decide +kernel, rfl, by decide +kernel, by decide +kernel⟩
abbrev s_law_mixed : Stmt := top 25
abbrev N_law_mixed : List Str := ["_law_bag_here", "_law_things", "_law_left", "_law_found", "_law_k"]
theorem sc_law_mixed : FnScope N_law_mixed ["_law_bag_here", "_law_things"] (defScope s_law_mixed) := ⟨rfl, rfl, rfl, by decide +kernel, rfl, by decide +kernel, by decide +kernel⟩
abbrev s_law_same : Stmt := top 26
abbrev N_law_same : List Str := ["_law_found", "_law_due", "_law_a", "_law_b"]
theorem sc_law_same : FnScope N_law_same ["_law_found", "_law_due"] (defScope s_law_same) := ⟨rfl, rfl, rfl, by decide +kernel, rfl, by decide +kernel, by decide +kernel⟩
abbrev s_law_odd : Stmt := top 27
abbrev N_law_odd : List Str := ["_law_bag_here", "_law_more"]
theorem sc_law_odd : FnScope N_law_odd ["_law_bag_here", "_law_more"] (defScope s_law_odd) := ⟨rfl, rfl, rfl, by decide +kernel, rfl, by decide +kernel, by decide +kernel⟩
abbrev s_law_titles : Stmt := top 28
abbrev N_law_titles : List Str := ["_law_bag_here", "_law_many", "_law_left", "_law_found", "_law_stem", "_law_k", "_law_spot"]
theorem sc_law_titles : FnScope N_law_titles ["_law_bag_here", "_law_many"] (defScope s_law_titles) := ⟨rfl, rfl, rfl, by decide +kernel, rfl, by decide +kernel, by decide +kernel⟩
abbrev s_law_number : Stmt := top 29
abbrev N_law_number : List Str := ["_law_bag_here"]
theorem sc_law_number : FnScope N_law_number ["_law_bag_here"] (defScope s_law_number) := ⟨rfl, rfl, rfl, by decide +kernel, rfl, by decide +kernel, by decide +kernel⟩
abbrev s_law_r : Stmt := top 30
abbrev N_law_r : List Str := ["_law_bag_here"]
theorem sc_law_r : FnScope N_law_r ["_law_bag_here"] (defScope s_law_r) := ⟨rfl, rfl, rfl, by decide +kernel, rfl, by decide +kernel, by decide +kernel⟩
abbrev s_law_code_row : Stmt := top 31
abbrev N_law_code_row : List Str := ["_law_bag_here", "_law_titles_here", "_law_way"]
theorem sc_law_code_row : FnScope N_law_code_row ["_law_bag_here", "_law_titles_here"] (defScope s_law_code_row) := ⟨rfl, rfl, rfl, by decide +kernel, rfl, by decide +kernel, by decide +kernel⟩
abbrev s_law_last_row : Stmt := top 32
abbrev N_law_last_row : List Str := ["_law_bag_here", "_law_titles_here"]
theorem sc_law_last_row : FnScope N_law_last_row ["_law_bag_here", "_law_titles_here"] (defScope s_law_last_row) := ⟨rfl, rfl, rfl, by decide +kernel, rfl, by decide +kernel, by decide +kernel⟩
abbrev s_law_data_row : Stmt := top 33
abbrev N_law_data_row : List Str := ["_law_bag_here", "_law_titles_here", "_law_way"]
theorem sc_law_data_row : FnScope N_law_data_row ["_law_bag_here", "_law_titles_here"] (defScope s_law_data_row) := ⟨rfl, rfl, rfl, by decide +kernel, rfl, by decide +kernel, by decide +kernel⟩
abbrev s_law_row_text : Stmt := top 34
abbrev N_law_row_text : List Str := ["_law_one", "_law_item"]
theorem sc_law_row_text : FnScope N_law_row_text ["_law_one"] (defScope s_law_row_text) := ⟨rfl, rfl, rfl, by decide +kernel, rfl, by decide +kernel, by decide +kernel⟩
abbrev s_law_is_title : Stmt := top 35
abbrev N_law_is_title : List Str := ["_law_thing", "_law_sign"]
theorem sc_law_is_title : FnScope N_law_is_title ["_law_thing"] (defScope s_law_is_title) := ⟨rfl, rfl, rfl, by decide +kernel, rfl, by decide +kernel, by decide +kernel⟩
abbrev s_law_within : Stmt := top 36
abbrev N_law_within : List Str := ["_law_thing", "_law_low_y", "_law_high_y"]
theorem sc_law_within : FnScope N_law_within ["_law_thing", "_law_low_y", "_law_high_y"] (defScope s_law_within) := ⟨rfl, rfl, rfl, by decide +kernel, rfl, by decide +kernel, by decide +kernel⟩
abbrev s_law_code_so : Stmt := top 37
abbrev N_law_code_so : List Str := ["_law_thing", "_law_own", "_law_rest"]
theorem sc_law_code_so : FnScope N_law_code_so ["_law_thing"] (defScope s_law_code_so) := ⟨rfl, rfl, rfl, by decide +kernel, rfl, by decide +kernel, by decide +kernel⟩
abbrev s_law_data_so : Stmt := top 38
abbrev N_law_data_so : List Str := ["_law_thing"]
theorem sc_law_data_so : FnScope N_law_data_so ["_law_thing"] (defScope s_law_data_so) := ⟨rfl, rfl, rfl, by decide +kernel, rfl, by decide +kernel, by decide +kernel⟩
abbrev s_law_figure : Stmt := top 39
abbrev N_law_figure : List Str := ["_law_word_y", "_law_sign"]
theorem sc_law_figure : FnScope N_law_figure ["_law_word_y"] (defScope s_law_figure) := ⟨rfl, rfl, rfl, by decide +kernel, rfl, by decide +kernel, by decide +kernel⟩
abbrev s_law_row_of : Stmt := top 40
abbrev N_law_row_of : List Str := ["_law_words", "_law_side", "_law_items", "_law_k", "_law_one"]
theorem sc_law_row_of : FnScope N_law_row_of ["_law_words", "_law_side"] (defScope s_law_row_of) := ⟨rfl, rfl, rfl, by decide +kernel, rfl, by decide +kernel, by decide +kernel⟩
abbrev s_law_bent_text : Stmt := top 41
abbrev N_law_bent_text : List Str := ["_law_bag_here", "_law_told", "_law_spot", "_law_sign", "_law_way"]
theorem sc_law_bent_text : FnScope N_law_bent_text ["_law_bag_here", "_law_told"] (defScope s_law_bent_text) := ⟨rfl, rfl, rfl, by decide +kernel, rfl, by decide +kernel, by decide +kernel⟩
abbrev s_law : Stmt := top 42
abbrev N_law : List Str := ["_law_script", "_law_bag_here", "_law_titles_here", "_law_turn", "_law_one", "_law_told", "_law_bent", "_law_due", "_law_back", "_law_rows_y"]
theorem sc_law : FnScope N_law ["_law_script"] (defScope s_law) := ⟨rfl, rfl, rfl, by decide +kernel, rfl, by decide +kernel, by decide +kernel⟩
structure Fs where
  (a_is_name : Addr) (d_is_name : FuncData)
  (a_is_register : Addr) (d_is_register : FuncData)
  (a_is_number : Addr) (d_is_number : FuncData)
  (a_read_number : Addr) (d_read_number : FuncData)
  (a_is_code_row : Addr) (d_is_code_row : FuncData)
  (a_is_data_row : Addr) (d_is_data_row : FuncData)
  (a_row_text : Addr) (d_row_text : FuncData)
  (a_read_row : Addr) (d_read_row : FuncData)
  (a_word_of : Addr) (d_word_of : FuncData)
  (a_kinds_of : Addr) (d_kinds_of : FuncData)
  (a_fit : Addr) (d_fit : FuncData)
  (a_fits : Addr) (d_fits : FuncData)
  (a_read_item : Addr) (d_read_item : FuncData)
  (a_law_bag : Addr) (d_law_bag : FuncData)
  (a_law_draw : Addr) (d_law_draw : FuncData)
  (a_law_of : Addr) (d_law_of : FuncData)
  (a_law_mixed : Addr) (d_law_mixed : FuncData)
  (a_law_same : Addr) (d_law_same : FuncData)
  (a_law_odd : Addr) (d_law_odd : FuncData)
  (a_law_titles : Addr) (d_law_titles : FuncData)
  (a_law_number : Addr) (d_law_number : FuncData)
  (a_law_r : Addr) (d_law_r : FuncData)
  (a_law_code_row : Addr) (d_law_code_row : FuncData)
  (a_law_last_row : Addr) (d_law_last_row : FuncData)
  (a_law_data_row : Addr) (d_law_data_row : FuncData)
  (a_law_row_text : Addr) (d_law_row_text : FuncData)
  (a_law_is_title : Addr) (d_law_is_title : FuncData)
  (a_law_within : Addr) (d_law_within : FuncData)
  (a_law_code_so : Addr) (d_law_code_so : FuncData)
  (a_law_data_so : Addr) (d_law_data_so : FuncData)
  (a_law_figure : Addr) (d_law_figure : FuncData)
  (a_law_row_of : Addr) (d_law_row_of : FuncData)
  (a_law_bent_text : Addr) (d_law_bent_text : FuncData)
  (a_law : Addr) (d_law : FuncData)
  (e_CODE_ROWS : Array DictEntry) (z_CODE_ROWS : Nat)
  (e_DATA_ROWS : Array DictEntry) (z_DATA_ROWS : Nat)
  (e_BOUNDS : Array DictEntry) (z_BOUNDS : Nat)
  (c_REGISTERS : Addr)
  (c_CODE_ROWS : Addr)
  (c_DATA_ROWS : Addr)
  (c_BOUNDS : Addr)
def tb_CODE_ROWS : List (Str × List V) := [("put", [.str "R", .str "n"]), ("name", [.str "R", .str "N"]), ("add", [.str "R", .str "R"]), ("take", [.str "R", .str "R"]), ("load", [.str "R", .str "R", .str "d"]), ("store", [.str "R", .str "R", .str "d"]), ("jump", [.str "N"]), ("ifzero", [.str "R", .str "N"]), ("call", [.str "N"]), ("callby", [.str "R"]), ("back", []), ("out", [.str "R"]), ("halt", []), ("room", [.str "k"])]
def tb_DATA_ROWS : List (Str × List V) := [("word", [.str "n"]), ("address", [.str "N"]), ("room", [.str "k"])]
def tb_BOUNDS : List (Str × List V) := [("n", [.int 0, .int 65535]), ("d", [.int 0, .int 15]), ("k", [.int 1, .int 120])]
structure Txt (K : PySem.W.Frag) (w : World) (mg : Str → Option Value) (Z : Fs) : Prop where
  F_is_name : Fun K "is_name" "is_name" s_is_name Z.a_is_name Z.d_is_name
  m_is_name : mg "is_name" = some (.ref Z.a_is_name)
  b_is_name : Binds K Z.d_is_name ["value"] []
  F_is_register : Fun K "is_register" "is_register" s_is_register Z.a_is_register Z.d_is_register
  m_is_register : mg "is_register" = some (.ref Z.a_is_register)
  b_is_register : Binds K Z.d_is_register ["value"] []
  F_is_number : Fun K "is_number" "is_number" s_is_number Z.a_is_number Z.d_is_number
  m_is_number : mg "is_number" = some (.ref Z.a_is_number)
  b_is_number : Binds K Z.d_is_number ["value", "least", "most"] []
  F_read_number : Fun K "read_number" "read_number" s_read_number Z.a_read_number Z.d_read_number
  m_read_number : mg "read_number" = some (.ref Z.a_read_number)
  b_read_number : Binds K Z.d_read_number ["text"] []
  F_is_code_row : Fun K "is_code_row" "is_code_row" s_is_code_row Z.a_is_code_row Z.d_is_code_row
  m_is_code_row : mg "is_code_row" = some (.ref Z.a_is_code_row)
  b_is_code_row : Binds K Z.d_is_code_row ["value"] []
  F_is_data_row : Fun K "is_data_row" "is_data_row" s_is_data_row Z.a_is_data_row Z.d_is_data_row
  m_is_data_row : mg "is_data_row" = some (.ref Z.a_is_data_row)
  b_is_data_row : Binds K Z.d_is_data_row ["value"] []
  F_row_text : Fun K "row_text" "row_text" s_row_text Z.a_row_text Z.d_row_text
  m_row_text : mg "row_text" = some (.ref Z.a_row_text)
  b_row_text : Binds K Z.d_row_text ["row"] []
  k_row_text_0_row : KBn K Z.d_row_text ["row"] 0 ["row"] (fun us ws => [(us ++ ws).getD 0 .none]) (fun us ws => [(us ++ ws).getD 0 .non])
  F_read_row : Fun K "read_row" "read_row" s_read_row Z.a_read_row Z.d_read_row
  m_read_row : mg "read_row" = some (.ref Z.a_read_row)
  b_read_row : Binds K Z.d_read_row ["text"] []
  k_read_row_0_text : KBn K Z.d_read_row ["text"] 0 ["text"] (fun us ws => [(us ++ ws).getD 0 .none]) (fun us ws => [(us ++ ws).getD 0 .non])
  F_word_of : Fun K "_word_of" "_word_of" s_word_of Z.a_word_of Z.d_word_of
  m_word_of : mg "_word_of" = some (.ref Z.a_word_of)
  b_word_of : Binds K Z.d_word_of ["value"] []
  F_kinds_of : Fun K "_kinds_of" "_kinds_of" s_kinds_of Z.a_kinds_of Z.d_kinds_of
  m_kinds_of : mg "_kinds_of" = some (.ref Z.a_kinds_of)
  b_kinds_of : Binds K Z.d_kinds_of ["word"] []
  F_fit : Fun K "_fit" "_fit" s_fit Z.a_fit Z.d_fit
  m_fit : mg "_fit" = some (.ref Z.a_fit)
  b_fit : Binds K Z.d_fit ["items", "kinds"] []
  F_fits : Fun K "_fits" "_fits" s_fits Z.a_fits Z.d_fits
  m_fits : mg "_fits" = some (.ref Z.a_fits)
  b_fits : Binds K Z.d_fits ["item", "kind"] []
  F_read_item : Fun K "_read_item" "_read_item" s_read_item Z.a_read_item Z.d_read_item
  m_read_item : mg "_read_item" = some (.ref Z.a_read_item)
  b_read_item : Binds K Z.d_read_item ["text", "kind"] []
  F_law_bag : Fun K "_law_bag" "_law_bag" s_law_bag Z.a_law_bag Z.d_law_bag
  m_law_bag : mg "_law_bag" = some (.ref Z.a_law_bag)
  b_law_bag : Binds K Z.d_law_bag ["_law_script"] []
  F_law_draw : Fun K "_law_draw" "_law_draw" s_law_draw Z.a_law_draw Z.d_law_draw
  m_law_draw : mg "_law_draw" = some (.ref Z.a_law_draw)
  b_law_draw : Binds K Z.d_law_draw ["_law_bag_here", "_law_sides"] []
  F_law_of : Fun K "_law_of" "_law_of" s_law_of Z.a_law_of Z.d_law_of
  m_law_of : mg "_law_of" = some (.ref Z.a_law_of)
  b_law_of : Binds K Z.d_law_of ["_law_bag_here", "_law_things"] []
  F_law_mixed : Fun K "_law_mixed" "_law_mixed" s_law_mixed Z.a_law_mixed Z.d_law_mixed
  m_law_mixed : mg "_law_mixed" = some (.ref Z.a_law_mixed)
  b_law_mixed : Binds K Z.d_law_mixed ["_law_bag_here", "_law_things"] []
  F_law_same : Fun K "_law_same" "_law_same" s_law_same Z.a_law_same Z.d_law_same
  m_law_same : mg "_law_same" = some (.ref Z.a_law_same)
  b_law_same : Binds K Z.d_law_same ["_law_found", "_law_due"] []
  F_law_odd : Fun K "_law_odd" "_law_odd" s_law_odd Z.a_law_odd Z.d_law_odd
  m_law_odd : mg "_law_odd" = some (.ref Z.a_law_odd)
  b_law_odd : Binds K Z.d_law_odd ["_law_bag_here", "_law_more"] []
  F_law_titles : Fun K "_law_titles" "_law_titles" s_law_titles Z.a_law_titles Z.d_law_titles
  m_law_titles : mg "_law_titles" = some (.ref Z.a_law_titles)
  b_law_titles : Binds K Z.d_law_titles ["_law_bag_here", "_law_many"] []
  F_law_number : Fun K "_law_number" "_law_number" s_law_number Z.a_law_number Z.d_law_number
  m_law_number : mg "_law_number" = some (.ref Z.a_law_number)
  b_law_number : Binds K Z.d_law_number ["_law_bag_here"] []
  F_law_r : Fun K "_law_r" "_law_r" s_law_r Z.a_law_r Z.d_law_r
  m_law_r : mg "_law_r" = some (.ref Z.a_law_r)
  b_law_r : Binds K Z.d_law_r ["_law_bag_here"] []
  F_law_code_row : Fun K "_law_code_row" "_law_code_row" s_law_code_row Z.a_law_code_row Z.d_law_code_row
  m_law_code_row : mg "_law_code_row" = some (.ref Z.a_law_code_row)
  b_law_code_row : Binds K Z.d_law_code_row ["_law_bag_here", "_law_titles_here"] []
  F_law_last_row : Fun K "_law_last_row" "_law_last_row" s_law_last_row Z.a_law_last_row Z.d_law_last_row
  m_law_last_row : mg "_law_last_row" = some (.ref Z.a_law_last_row)
  b_law_last_row : Binds K Z.d_law_last_row ["_law_bag_here", "_law_titles_here"] []
  F_law_data_row : Fun K "_law_data_row" "_law_data_row" s_law_data_row Z.a_law_data_row Z.d_law_data_row
  m_law_data_row : mg "_law_data_row" = some (.ref Z.a_law_data_row)
  b_law_data_row : Binds K Z.d_law_data_row ["_law_bag_here", "_law_titles_here"] []
  F_law_row_text : Fun K "_law_row_text" "_law_row_text" s_law_row_text Z.a_law_row_text Z.d_law_row_text
  m_law_row_text : mg "_law_row_text" = some (.ref Z.a_law_row_text)
  b_law_row_text : Binds K Z.d_law_row_text ["_law_one"] []
  F_law_is_title : Fun K "_law_is_title" "_law_is_title" s_law_is_title Z.a_law_is_title Z.d_law_is_title
  m_law_is_title : mg "_law_is_title" = some (.ref Z.a_law_is_title)
  b_law_is_title : Binds K Z.d_law_is_title ["_law_thing"] []
  F_law_within : Fun K "_law_within" "_law_within" s_law_within Z.a_law_within Z.d_law_within
  m_law_within : mg "_law_within" = some (.ref Z.a_law_within)
  b_law_within : Binds K Z.d_law_within ["_law_thing", "_law_low_y", "_law_high_y"] []
  F_law_code_so : Fun K "_law_code_so" "_law_code_so" s_law_code_so Z.a_law_code_so Z.d_law_code_so
  m_law_code_so : mg "_law_code_so" = some (.ref Z.a_law_code_so)
  b_law_code_so : Binds K Z.d_law_code_so ["_law_thing"] []
  F_law_data_so : Fun K "_law_data_so" "_law_data_so" s_law_data_so Z.a_law_data_so Z.d_law_data_so
  m_law_data_so : mg "_law_data_so" = some (.ref Z.a_law_data_so)
  b_law_data_so : Binds K Z.d_law_data_so ["_law_thing"] []
  F_law_figure : Fun K "_law_figure" "_law_figure" s_law_figure Z.a_law_figure Z.d_law_figure
  m_law_figure : mg "_law_figure" = some (.ref Z.a_law_figure)
  b_law_figure : Binds K Z.d_law_figure ["_law_word_y"] []
  F_law_row_of : Fun K "_law_row_of" "_law_row_of" s_law_row_of Z.a_law_row_of Z.d_law_row_of
  m_law_row_of : mg "_law_row_of" = some (.ref Z.a_law_row_of)
  b_law_row_of : Binds K Z.d_law_row_of ["_law_words", "_law_side"] []
  F_law_bent_text : Fun K "_law_bent_text" "_law_bent_text" s_law_bent_text Z.a_law_bent_text Z.d_law_bent_text
  m_law_bent_text : mg "_law_bent_text" = some (.ref Z.a_law_bent_text)
  b_law_bent_text : Binds K Z.d_law_bent_text ["_law_bag_here", "_law_told"] []
  F_law : Fun K "law" "law" s_law Z.a_law Z.d_law
  m_law : mg "law" = some (.ref Z.a_law)
  b_law : Binds K Z.d_law ["_law_script"] []
  n_abs : mg "abs" = none
  n_all : mg "all" = none
  n_bool : mg "bool" = none
  n_int : mg "int" = none
  n_isinstance : mg "isinstance" = none
  n_len : mg "len" = none
  n_list : mg "list" = none
  n_range : mg "range" = none
  n_str : mg "str" = none
  n_tuple : mg "tuple" = none
  n_zip : mg "zip" = none
  g_MOST_LETTERS : ∃ t, mg "MOST_LETTERS" = some (.int 6 t)
  g_MOST_DIGITS : ∃ t, mg "MOST_DIGITS" = some (.int 5 t)
  g_REGISTERS : mg "REGISTERS" = some (.ref Z.c_REGISTERS)
  v_REGISTERS : ∀ H : Hp, SqT K H Z.c_REGISTERS [.str "r0", .str "r1", .str "r2"]
  L_REGISTERS : ∃ o, K.lookup Z.c_REGISTERS = some o ∧ o.cls = .type "tuple" ∧ o.dict = none
  g_CODE_ROWS : mg "CODE_ROWS" = some (.ref Z.c_CODE_ROWS)
  g_DATA_ROWS : mg "DATA_ROWS" = some (.ref Z.c_DATA_ROWS)
  g_BOUNDS : mg "BOUNDS" = some (.ref Z.c_BOUNDS)
  D_CODE_ROWS : KDict K w Z.c_CODE_ROWS Z.e_CODE_ROWS Z.z_CODE_ROWS
  x_CODE_ROWS : ∀ z : Str, ∃ r, PySem.W.nsIn K Z.c_CODE_ROWS z = some r ∧ RelOpt (RelTu K) (findT tb_CODE_ROWS z) r
  D_DATA_ROWS : KDict K w Z.c_DATA_ROWS Z.e_DATA_ROWS Z.z_DATA_ROWS
  x_DATA_ROWS : ∀ z : Str, ∃ r, PySem.W.nsIn K Z.c_DATA_ROWS z = some r ∧ RelOpt (RelTu K) (findT tb_DATA_ROWS z) r
  D_BOUNDS : KDict K w Z.c_BOUNDS Z.e_BOUNDS Z.z_BOUNDS
  x_BOUNDS : ∀ z : Str, ∃ r, PySem.W.nsIn K Z.c_BOUNDS z = some r ∧ RelOpt (RelTu K) (findT tb_BOUNDS z) r
section
variable {X : Cx} {CX : CXT} {k : Nat} {f : Addr} {fd : FuncData} {ps ks : List Str} {sp : Sp} {E : XK} {x : Str} {p pos : Pos} {kws : List Keyword} {tk : TA} {g : List Value → List Value → List Value} {gV : List V → List V → List V}
/-- f(k = v, ..), no value by place -/
theorem pe_callN0 (F : FnOk X.prog X.w X.K X.mg X.base CX k f fd ps sp) (hr : Room k X.A) (hg : Gl X x) (hm : X.mg x = some (.ref f)) (hk : PySem.W.keepIn X.K (.ref f) = true) (hb : KBn X.K fd ps 0 ks g gV) (hx : Passes CX X E) (hkw : PK X kws tk)
    (hall : (backToKw pos (keywordEach kws X.env)).all (·.1.isSome) = true := by rfl) (hks : (backToKw pos (keywordEach kws X.env)).filterMap (·.1) = ks := by rfl) (hdb : (x == ("__debug__" : Str)) = false := by decide)
    (hpl : ((backTo pos (starEach [] X.env)).any (·.1) || (backToKw pos (keywordEach kws X.env)).any (·.1.isNone)) = false := by rfl) :
    PE X (.Call (.Name x p) [] kws pos) (tCallN 0 ks.length sp gV E tNil tk) := by
  refine ⟨fun pins s σ H Q I h => ?_⟩
  refine wpAny_Call_Name_kw (ld_glob I hg hm ?_ hdb)
  refine PySem.W.callWith_KW0 (h₀ := X.base) I.ok.mod.kin hk hall ?_ hpl
  refine thn (hkw.run pos pins s σ H _ I h) fun ws s2 ⟨zs, H2, I2, rz, l1, l2, q2⟩ => ⟨I2.kIn, ?_⟩
  rw [hks]
  exact run_fnN (us := []) (vs := []) F hr hb hx I2 .nil rz rfl l2 q2
end
theorem getD_rel : ∀ {vs : List V} {us : List Value} (h : Vals vs us) (i : Nat), RelV (vs.getD i .non) (us.getD i .none)
  | _, _, .nil, _ => rfl
  | _, _, .cons r _, 0 => r
  | _, _, .cons _ t, i + 1 => getD_rel t i
theorem kbn_k_row_text_0_row {K : PySem.W.Frag} {f : Addr} {fd : FuncData} (F : Fun K "row_text" "row_text" s_row_text f fd) : KBn K fd ["row"] 0 ["row"] (fun us ws => [(us ++ ws).getD 0 .none]) (fun us ws => [(us ++ ws).getD 0 .non]) := by
  obtain ⟨oc, od, kV, doc, pm, an, cdv, ct, osl, rfl, lk, hcd⟩ := F.ex
  refine ⟨fun s us ws _ l1 l2 => ?_, fun r1 r2 => .cons (getD_rel (r1.append r2) 0) (.nil)⟩
  match us, ws, l1, l2 with
  | [], [_], _, _ => exact .of_eq rfl
theorem kbn_k_read_row_0_text {K : PySem.W.Frag} {f : Addr} {fd : FuncData} (F : Fun K "read_row" "read_row" s_read_row f fd) : KBn K fd ["text"] 0 ["text"] (fun us ws => [(us ++ ws).getD 0 .none]) (fun us ws => [(us ++ ws).getD 0 .non]) := by
  obtain ⟨oc, od, kV, doc, pm, an, cdv, ct, osl, rfl, lk, hcd⟩ := F.ex
  refine ⟨fun s us ws _ l1 l2 => ?_, fun r1 r2 => .cons (getD_rel (r1.append r2) 0) (.nil)⟩
  match us, ws, l1, l2 with
  | [], [_], _, _ => exact .of_eq rfl
/-! ### the bag of the law: a list of a list of ints and four numbers -/
def Bag (H : Hp) (b l : Addr) : Prop := ∃ (ns : List Int) (i : Nat) (r m n : Int), H b = some (.lst [.ref l, .int i, .int r, .int m, .int n]) ∧ H l = some (.lst (ns.map V.int)) ∧ l ≠ b ∧ ns.length ≤ 63 ∧ 0 ≤ r ∧ 0 ≤ m ∧ m < 2147483648
/-- all that was tracked, the bag apart, is as it was -/
def Stp (b : Addr) (H H' : Hp) : Prop := ∀ a o, a ≠ b → H a = some o → H' a = some o
theorem Stp.refl {b : Addr} {H : Hp} : Stp b H H := fun _ _ _ h => h
theorem Stp.trans {b : Addr} {H H1 H2 : Hp} (x : Stp b H H1) (y : Stp b H1 H2) : Stp b H H2 := fun a o n h => y a o n (x a o n h)
theorem Stp.put {b : Addr} {H : Hp} {o : HO} : Stp b H (upd H b o) := fun a u n h => by rw [upd_ne n]; exact h
theorem Stp.new {b p : Addr} {H : Hp} {o : HO} (h : H p = none) : Stp b H (upd H p o) := fun a u _ e => by rw [upd_ne (ne_of_none e h)]; exact e
theorem Same.new {p : Addr} {H : Hp} {o : HO} (h : H p = none) : Same H (upd H p o) := fun a u e => by rw [upd_ne (ne_of_none e h)]; exact e
theorem Same.stp {b : Addr} {H H' : Hp} (h : Same H H') : Stp b H H' := fun a o _ e => h a o e
theorem Bag.same {b l : Addr} {H H' : Hp} (s : Same H H') (h : Bag H b l) : Bag H' b l := by
  obtain ⟨ns, i, r, m, n, h1, h2, h3⟩ := h
  exact ⟨ns, i, r, m, n, s _ _ h1, s _ _ h2, h3⟩
theorem Bag.new {b l p : Addr} {H : Hp} {o : HO} (h : Bag H b l) (hp : H p = none) : Bag (upd H p o) b l := h.same (Same.new hp)
theorem Bag.ne {b l p : Addr} {H : Hp} (h : Bag H b l) (hp : H p = none) : p ≠ b := by
  obtain ⟨ns, i, r, m, n, h1, _⟩ := h
  exact (ne_of_none h1 hp).symm
theorem Bag.nel {b l p : Addr} {H : Hp} (h : Bag H b l) (hp : H p = none) : p ≠ l := by
  obtain ⟨ns, i, r, m, n, _, h1, _⟩ := h
  exact (ne_of_none h1 hp).symm
/-- a list of one's own is written -/
theorem Bag.put {b l p : Addr} {H : Hp} {o : HO} (h : Bag H b l) (n : p ≠ b) (nl : p ≠ l) : Bag (upd H p o) b l := by
  obtain ⟨ns, i, r, m, c, h1, h2, h3⟩ := h
  exact ⟨ns, i, r, m, c, by rw [upd_ne n.symm]; exact h1, by rw [upd_ne nl.symm]; exact h2, h3⟩
/-- what was new is new: the bag stands behind, too -/
theorem Stp.free {b l p : Addr} {H H' : Hp} (s : Stp b H H') (hb : Bag H' b l) (hp : H' p = none) : H p = none := by
  cases q : H p with
  | none => rfl
  | some o =>
    rw [s p o (hb.ne hp) q] at hp
    cases hp
theorem Stp.sqL {K : PySem.W.Frag} {b a : Addr} {H H' : Hp} {xs : List V} (s : Stp b H H') (n : a ≠ b) (h : SqL K H a xs) : SqL K H' a xs := by
  rcases h with (h | ⟨o, h⟩) | h
  · exact .inl (.inl (s _ _ n h))
  · exact .inl (.inr ⟨o, s _ _ n h⟩)
  · exact .inr h
theorem Stp.sqT {K : PySem.W.Frag} {b a : Addr} {H H' : Hp} {xs : List V} (s : Stp b H H') (n : a ≠ b) (h : SqT K H a xs) : SqT K H' a xs := by
  rcases h with (h | ⟨o, h⟩) | h
  · exact .inl (.inl (s _ _ n h))
  · exact .inl (.inr ⟨o, s _ _ n h⟩)
  · exact .inr h
/-- new: not tracked ahead, another one than the bag -/
theorem cut_ints (ns : List Int) (k : Nat) : cutV (ns.map V.int) none (some (k : Int)) = (ns.take k).map V.int := by
  unfold cutV
  rw [HT.sIx_none, HT.sIx_nat, List.drop_zero, Nat.sub_zero, List.map_take]
  by_cases h : k ≤ (ns.map V.int).length
  · rw [Nat.min_eq_left h]
  · rw [Nat.min_eq_right (by omega), List.take_length, List.take_of_length_le (by omega)]
theorem int_of_map {ns : List Int} {i : Nat} {y : V} (hi : (ns.map V.int)[i]? = some y) : ∃ u, y = V.int u := by
  rw [List.getElem?_map] at hi
  cases e : ns[i]? with
  | none => rw [e] at hi; cases hi
  | some u => rw [e] at hi; exact ⟨u, (Option.some.inj hi).symm⟩
theorem mem_at {α : Type} {xs : List α} {d : Int} (h0 : 0 ≤ d) (h1 : d < xs.length) : ∃ v, atI xs d = some v ∧ v ∈ xs := by
  obtain ⟨j, rfl⟩ : ∃ j : Nat, d = (j : Int) := ⟨d.toNat, by omega⟩
  have hj : j < xs.length := by omega
  exact ⟨xs[j], atI_nat (List.getElem?_eq_getElem hj), List.getElem_mem hj⟩

section
variable {P : Program} {w : World} {K : PySem.W.Frag} {mg : Str → Option Value} {base : Heap} {Z : Fs}
/-! ### _law_bag -/
def sp_law_bag (K : PySem.W.Frag) : Sp := fun vs H Q _ => ∃ (a : Addr) (ns : List Int), vs = [.ref a] ∧ SqL K H a (ns.map V.int) ∧ ns.length ≤ 63 ∧ ∀ (H' : Hp) (b l : Addr), Same H H' → H b = none → H l = none → Bag H' b l → Q (.ref b) H'
theorem ok_law_bag (T : Txt K w mg Z) : FnOk P w K mg base CX0 1 Z.a_law_bag Z.d_law_bag ["_law_script"] (sp_law_bag K) := by
  refine T.F_law_bag.ok sc_law_bag (fun vs H Q E h => ?_) (fun cdv A outer s H vs Q E hr h => ?_)
  · obtain ⟨a, ns, rfl, _⟩ := h
    rfl
  · obtain ⟨a, ns, rfl, hS, hlen, k⟩ := h
    refine ⟨_, (pss_cons (ps_set (i := 1) sc_law_bag.nd rfl (Or.inl rfl) pe_int)
      (pss_cons (ps_for PassesOwn.never rfl (pi_list (pe_slice sl_list (pv 0) po_none (po_some pe_int))) (pg_name (i := 2) sc_law_bag.nd rfl (Or.inl rfl)) (pss_one (ps_set (i := 1) sc_law_bag.nd rfl (Or.inl rfl) (pe_op op_mod (pe_callTy call_int1 (by rfl) T.n_int boot_int (pa_cons (pe_op op_add (pe_op op_add (pe_op op_mul (pv 1) pe_int) (pe_op op_mul (pe_op op_mod (pe_callTy call_int1 (by rfl) T.n_int boot_int (pa_cons (pv 2) pa_nil)) pe_int) pe_int)) pe_int) pa_nil)) pe_int))))
      (pss_one (ps_ret (pe_lst (pa_cons (pe_callTy call_list_of (by rfl) T.n_list boot_list (pa_cons (pe_slice sl_list (pv 0) po_none (po_some pe_int)) pa_nil)) (pa_cons pe_int (pa_cons pe_int (pa_cons (pv 1) (pa_cons pe_int pa_nil)))))))))), ?_⟩
    refine ⟨.ref a, rfl, 63, rfl, a, ns.map V.int, rfl, hS, fun p hp => ?_⟩
    have s1 : Same H (upd H p (.lst (cutV (ns.map V.int) none (some 63)))) := Same.new hp
    have ec : cutV (ns.map V.int) none (some 63) = (ns.take 63).map V.int := cut_ints ns 63
    refine ⟨p, rfl, ⟨_, SqL.of upd_same⟩, for_list (K := K) (a := p) (xs := cutV (ns.map V.int) none (some 63)) (fun i σ H' => ∃ (m : Int) (v : Option V), σ = [some (.ref a), some (.int m), v] ∧ Same (upd H p (.lst (cutV (ns.map V.int) none (some 63)))) H' ∧ 0 ≤ m ∧ m < 2147483579)
      ⟨12026, none, rfl, Same.refl _, by decide, by decide⟩ (fun i σ H' _ ⟨_, _, _, s2, _⟩ => SqL.of (s2 _ _ upd_same)) ?_ ?_⟩
    · rintro i y σ H' hi ⟨m, v, rfl, s2, h0, h1⟩
      rw [ec] at hi
      obtain ⟨u, rfl⟩ := int_of_map hi
      refine ⟨_, rfl, _, _, rfl, rfl, .inr ⟨by decide, by decide⟩, _, rfl, .inl ⟨_, rfl, _, _, rfl, rfl, (by show (0 : Int) < 1000639; decide), _, _, rfl, rfl, .inr ⟨by decide, by decide⟩, _, _, rfl, rfl, _, _, rfl, rfl, .inl ⟨_, rfl, _, _, rfl, rfl, (by show (0 : Int) < 2147483579; decide), ?_⟩⟩⟩
      exact ⟨_, _, rfl, s2, Int.emod_nonneg _ (by decide), Int.emod_lt_of_pos _ (by decide)⟩
    · rintro σ H' ⟨m, v, rfl, s2, h0, h1⟩
      refine ⟨.ref a, rfl, 63, rfl, a, ns.map V.int, rfl, (s1.trans s2).seq hS, fun q hq => ⟨q, _, rfl, .inl (SqL.of upd_same), fun l hl => ⟨_, rfl, (by show 5 ≤ sizeLine; decide), fun b hb => ?_⟩⟩⟩
      have nlb : l ≠ b := fun e => by
        rw [← e, upd_same] at hb
        cases hb
      have s3 := ((s1.trans s2).trans (Same.new (o := .lst (cutV (ns.map V.int) none (some 63))) hq)).trans (Same.new (o := .lst (cutV (ns.map V.int) none (some 63))) hl)
      refine k _ b l (s3.trans (Same.new hb)) (s3.free hb) (((s1.trans s2).trans (Same.new (o := .lst (cutV (ns.map V.int) none (some 63))) hq)).free hl) ⟨ns.take 63, 0, 0, m, 0, upd_same, ?_, nlb, ?_, by decide, h0, by omega⟩
      · rw [upd_ne nlb, upd_same, ec]
      · rw [List.length_take]
        omega
end

section
variable {P : Program} {w : World} {K : PySem.W.Frag} {mg : Str → Option Value} {base : Heap} {Z : Fs}
/-! ### _law_draw -/
def sp_law_draw : Sp := fun vs H Q _ => ∃ (b l : Addr) (d : Int), vs = [.ref b, .int d] ∧ Bag H b l ∧ 0 < d ∧ d < 1073741824 ∧ ∀ (H' : Hp) (v : Int), Stp b H H' → Bag H' b l → 0 ≤ v → v < d → Q (.int v) H'
theorem ok_law_draw (T : Txt K w mg Z) : FnOk P w K mg base CX0 1 Z.a_law_draw Z.d_law_draw ["_law_bag_here", "_law_sides"] sp_law_draw := by
  refine T.F_law_draw.ok sc_law_draw (fun vs H Q E h => ?_) (fun cdv A outer s H vs Q E hr h => ?_)
  · obtain ⟨b, l, d, rfl, _⟩ := h
    rfl
  · obtain ⟨b, l, d, rfl, ⟨ns, i, r, m, n, hb, hl, nlb, hlen, r0, m0, m1⟩, d0, d1, k⟩ := h
    refine ⟨_, (pss_cons (ps_asg (pe_op op_add (pe_ix ix_list (pv 0) pe_int (fun _ _ => rfl)) pe_int) (pg_sub (pv 0) pe_int set_list))
      (C8.pss_cut (ps_if (PW.pt (pw_and (pt_cmpR op_eq (pe_ix ix_list (pv 0) pe_int (fun _ _ => rfl)) pe_int (nomark _)) (pw_and1 (pt_cmpR op_lt (pe_ix ix_list (pv 0) pe_int (fun _ _ => rfl)) (pe_callB call_len (by rfl) T.n_len boot_len (pa_cons (pe_ix ix_list (pv 0) pe_int (fun _ _ => rfl)) pa_nil)) (nomark _))))) (pss_cons (ps_set (i := 2) sc_law_draw.nd rfl (Or.inl rfl) (pe_callTy call_int1 (by rfl) T.n_int boot_int (pa_cons (pe_ix ix_list (pe_ix ix_list (pv 0) pe_int (fun _ _ => rfl)) (pe_ix ix_list (pv 0) pe_int (fun _ _ => rfl)) (fun _ _ => rfl)) pa_nil)))
      (pss_cons (ps_asg (pe_op op_add (pe_ix ix_list (pv 0) pe_int (fun _ _ => rfl)) pe_int) (pg_sub (pv 0) pe_int set_list))
      (pss_one (ps_if (pt_cmpR op_ge (pe_callB call_abs (by rfl) T.n_abs boot_abs (pa_cons (pv 2) pa_nil)) (pe_op op_pow pe_int pe_int) (nomark _)) (pss_one (ps_asg (pe_callB call_abs (by rfl) T.n_abs boot_abs (pa_cons (pv 2) pa_nil)) (pg_sub (pv 0) pe_int set_list))) (pss_one (ps_asg (pe_op op_mod (pe_callTy call_int1 (by rfl) T.n_int boot_int (pa_cons (pe_op op_add (pe_op op_add (pe_op op_mul (pe_ix ix_list (pv 0) pe_int (fun _ _ => rfl)) pe_int) (pe_op op_mul (pe_op op_mod (pe_callTy call_int1 (by rfl) T.n_int boot_int (pa_cons (pv 2) pa_nil)) pe_int) pe_int)) pe_int) pa_nil)) pe_int) (pg_sub (pv 0) pe_int set_list))))))) pss_nil)
      (pss_cons (ps_if (pt_cmpR op_gt (pe_ix ix_list (pv 0) pe_int (fun _ _ => rfl)) pe_int (nomark _)) (pss_cons (ps_set (i := 3) sc_law_draw.nd rfl (Or.inl rfl) (pe_op op_mod (pe_callTy call_int1 (by rfl) T.n_int boot_int (pa_cons (pe_ix ix_list (pv 0) pe_int (fun _ _ => rfl)) pa_nil)) (pv 1)))
      (pss_cons (ps_asg (pe_op op_fdiv (pe_ix ix_list (pv 0) pe_int (fun _ _ => rfl)) (pv 1)) (pg_sub (pv 0) pe_int set_list))
      (pss_one (ps_ret (pv 3))))) pss_nil)
      (pss_cons (ps_set (i := 4) sc_law_draw.nd rfl (Or.inl rfl) (pe_callTy call_int1 (by rfl) T.n_int boot_int (pa_cons (pe_ix ix_list (pv 0) pe_int (fun _ _ => rfl)) pa_nil)))
      (pss_cons (ps_asg (pe_op op_mod (pe_callTy call_int1 (by rfl) T.n_int boot_int (pa_cons (pe_op op_add (pe_op op_add (pe_op op_add (pe_op op_mul (pe_op op_mul (pv 4) (pv 4)) pe_int) (pe_op op_mul (pv 4) pe_int)) (pe_op op_mul (pe_ix ix_list (pv 0) pe_int (fun _ _ => rfl)) pe_int)) pe_int) pa_nil)) pe_int) (pg_sub (pv 0) pe_int set_list))
      (pss_one (ps_ret (pe_op op_mod (pe_callTy call_int1 (by rfl) T.n_int boot_int (pa_cons (pe_op op_add (pe_op op_fdiv (pe_ix ix_list (pv 0) pe_int (fun _ _ => rfl)) pe_int) (pe_op op_mul (pe_op op_mod (pe_callTy call_int1 (by rfl) T.n_int boot_int (pa_cons (pe_ix ix_list (pv 0) pe_int (fun _ _ => rfl)) pa_nil)) pe_int) pe_int)) pa_nil)) (pv 1))))))))), ?_⟩
    -- bag[4] = bag[4] + 1
    refine ⟨.ref b, rfl, b, _, 4, .int n, rfl, rfl, SqL.of hb, atI_nat (j := 4) rfl, n, 1, rfl, rfl, .ref b, rfl, b, _, 4, 4, rfl, rfl, hb, rfl, ?_⟩
    refine ⟨fun σ' H' => ∃ (y2 : Option V), σ' = [some (.ref b), some (.int d), y2, none, none] ∧ Stp b H H' ∧ Bag H' b l, ?_, ?_⟩
    · have hb1 : (upd H b (.lst ([V.ref l, .int i, .int r, .int m, .int n].set 4 (.int (n + 1))))) b = some (.lst [.ref l, .int i, .int r, .int m, .int (n + 1)]) := upd_same
      have hl1 : (upd H b (.lst ([V.ref l, .int i, .int r, .int m, .int n].set 4 (.int (n + 1))))) l = some (.lst (ns.map V.int)) := by
        rw [upd_ne nlb]
        exact hl
      have s1 : Stp b H (upd H b (.lst ([V.ref l, .int i, .int r, .int m, .int n].set 4 (.int (n + 1))))) := Stp.put
      generalize upd H b (.lst ([V.ref l, .int i, .int r, .int m, .int n].set 4 (.int (n + 1)))) = H1 at hb1 hl1 s1 ⊢
      have B1 : Bag H1 b l := ⟨ns, i, r, m, n + 1, hb1, hl1, nlb, hlen, r0, m0, m1⟩
      -- if bag[2] == 0 and bag[1] < len(bag[0])
      refine ⟨.ref b, rfl, b, _, 2, .int r, rfl, rfl, SqL.of hb1, atI_nat (j := 2) rfl, rfl, _, rfl, ?_⟩
      refine ite2 (fun _ => ?_) (fun _ => ?_)
      · refine ⟨.ref b, rfl, b, _, 1, .int i, rfl, rfl, SqL.of hb1, atI_nat (j := 1) rfl, .ref b, rfl, b, _, 0, .ref l, rfl, rfl, SqL.of hb1, atI_nat (j := 0) rfl, .ref l, ns.length, rfl, .inl ⟨_, SqL.of hl1, by rw [List.length_map]⟩, _, _, rfl, rfl, _, rfl, ?_⟩
        refine ite2 (fun hi => ?_) (fun _ => ?_)
        · have hi' : i < ns.length := by
            have q := of_decide_eq_true hi
            omega
          have gi : atI (ns.map V.int) (i : Int) = some (.int ns[i]) := atI_nat (by rw [List.getElem?_map, List.getElem?_eq_getElem hi']; rfl)
          -- piled = int(bag[0][bag[1]])
          refine ⟨.ref b, rfl, b, _, 0, .ref l, rfl, rfl, SqL.of hb1, atI_nat (j := 0) rfl, .ref b, rfl, b, _, 1, .int i, rfl, rfl, SqL.of hb1, atI_nat (j := 1) rfl, l, _, _, _, rfl, rfl, SqL.of hl1, gi, .inl ⟨_, rfl, ?_⟩⟩
          -- bag[1] = bag[1] + 1
          refine ⟨.ref b, rfl, b, _, 1, .int i, rfl, rfl, SqL.of hb1, atI_nat (j := 1) rfl, i, 1, rfl, rfl, .ref b, rfl, b, _, 1, 1, rfl, rfl, hb1, rfl, ?_⟩
          have hb2 : (upd H1 b (.lst ([V.ref l, .int i, .int r, .int m, .int (n + 1)].set 1 (.int (i + 1))))) b = some (.lst [.ref l, .int ((i + 1 : Nat) : Int), .int r, .int m, .int (n + 1)]) := upd_same
          have hl2 : (upd H1 b (.lst ([V.ref l, .int i, .int r, .int m, .int (n + 1)].set 1 (.int (i + 1))))) l = some (.lst (ns.map V.int)) := by
            rw [upd_ne nlb]
            exact hl1
          have s2 : Stp b H (upd H1 b (.lst ([V.ref l, .int i, .int r, .int m, .int (n + 1)].set 1 (.int (i + 1))))) := s1.trans Stp.put
          generalize upd H1 b (.lst ([V.ref l, .int i, .int r, .int m, .int (n + 1)].set 1 (.int (i + 1)))) = H2 at hb2 hl2 s2 ⊢
          -- if abs(piled) >= 10 ** 18
          refine ⟨.int ns[i], rfl, _, rfl, 10, 18, rfl, rfl, ⟨by decide, by decide, by decide⟩, _, _, rfl, rfl, _, rfl, ?_⟩
          refine ite2 (fun _ => ?_) (fun _ => ?_)
          · refine ⟨.int ns[i], rfl, _, rfl, .ref b, rfl, b, _, 2, 2, rfl, rfl, hb2, rfl, ?_⟩
            refine ⟨_, rfl, s2.trans Stp.put, ns, i + 1, _, m, n + 1, upd_same, ?_, nlb, hlen, ?_, m0, m1⟩
            · rw [upd_ne nlb]
              exact hl2
            · show 0 ≤ (if ns[i] < 0 then -ns[i] else ns[i])
              split <;> omega
          · refine ⟨.ref b, rfl, b, _, 3, .int m, rfl, rfl, SqL.of hb2, atI_nat (j := 3) rfl, _, _, rfl, rfl, .inr ⟨by decide, by decide⟩, .int ns[i], rfl, .inl ⟨_, rfl, _, _, rfl, rfl, (by show (0 : Int) < 1000639; decide), _, _, rfl, rfl, .inr ⟨by decide, by decide⟩, _, _, rfl, rfl, _, _, rfl, rfl, .inl ⟨_, rfl, _, _, rfl, rfl, (by show (0 : Int) < 2147483587; decide), .ref b, rfl, b, _, 3, 3, rfl, rfl, hb2, rfl, ?_⟩⟩⟩
            refine ⟨_, rfl, s2.trans Stp.put, ns, i + 1, r, _, n + 1, upd_same, ?_, nlb, hlen, r0, Int.emod_nonneg _ (by decide), Int.lt_trans (Int.emod_lt_of_pos _ (by decide)) (by decide)⟩
            rw [upd_ne nlb]
            exact hl2
        · exact ⟨_, rfl, s1, B1⟩
      · exact ⟨_, rfl, s1, B1⟩
    · rintro σ' H1 ⟨y2, rfl, s1, ns, i, r, m, n, hb1, hl1, nlb, hlen, r0, m0, m1⟩
      -- if bag[2] > 0
      refine ⟨.ref b, rfl, b, _, 2, .int r, rfl, rfl, SqL.of hb1, atI_nat (j := 2) rfl, _, _, rfl, rfl, _, rfl, ?_⟩
      refine ite2 (fun _ => ?_) (fun _ => ?_)
      · refine ⟨.ref b, rfl, b, _, 2, .int r, rfl, rfl, SqL.of hb1, atI_nat (j := 2) rfl, .inl ⟨_, rfl, .int d, rfl, _, _, rfl, rfl, d0, ?_⟩⟩
        refine ⟨.ref b, rfl, b, _, 2, .int r, rfl, rfl, SqL.of hb1, atI_nat (j := 2) rfl, .int d, rfl, _, _, rfl, rfl, ⟨d0, d1⟩, .ref b, rfl, b, _, 2, 2, rfl, rfl, hb1, rfl, ?_⟩
        refine ⟨_, rfl, k _ _ (s1.trans Stp.put) ⟨ns, i, _, m, n, upd_same, ?_, nlb, hlen, Int.ediv_nonneg r0 (Int.le_of_lt d0), m0, m1⟩ (Int.emod_nonneg _ (by omega)) (Int.emod_lt_of_pos _ d0)⟩
        rw [upd_ne nlb]
        exact hl1
      · -- seed
        refine ⟨.ref b, rfl, b, _, 3, .int m, rfl, rfl, SqL.of hb1, atI_nat (j := 3) rfl, .inl ⟨_, rfl, ?_⟩⟩
        refine ⟨.int m, rfl, .int m, rfl, _, _, rfl, rfl, .inl ⟨by omega, by omega⟩, _, _, rfl, rfl, .inr ⟨by decide, by decide⟩, .int m, rfl, _, _, rfl, rfl, .inr ⟨by decide, by decide⟩, _, _, rfl, rfl,
          .ref b, rfl, b, _, 4, .int n, rfl, rfl, SqL.of hb1, atI_nat (j := 4) rfl, _, _, rfl, rfl, .inr ⟨by decide, by decide⟩, _, _, rfl, rfl, _, _, rfl, rfl, .inl ⟨_, rfl, _, _, rfl, rfl, (by show (0 : Int) < 2147483549; decide), .ref b, rfl, b, _, 3, 3, rfl, rfl, hb1, rfl, ?_⟩⟩
        have hm0 := Int.emod_nonneg (m * m * 19 + m * 47111 + n * 110323 + 60089) (show (2147483549 : Int) ≠ 0 by decide)
        have hm1 := Int.emod_lt_of_pos (m * m * 19 + m * 47111 + n * 110323 + 60089) (show (0 : Int) < 2147483549 by decide)
        have hb2 : (upd H1 b (.lst ([V.ref l, .int i, .int r, .int m, .int n].set 3 (.int ((m * m * 19 + m * 47111 + n * 110323 + 60089) % 2147483549))))) b = some (.lst [.ref l, .int i, .int r, .int ((m * m * 19 + m * 47111 + n * 110323 + 60089) % 2147483549), .int n]) := upd_same
        have hl2 : (upd H1 b (.lst ([V.ref l, .int i, .int r, .int m, .int n].set 3 (.int ((m * m * 19 + m * 47111 + n * 110323 + 60089) % 2147483549))))) l = some (.lst (ns.map V.int)) := by
          rw [upd_ne nlb]
          exact hl1
        have s2 : Stp b H (upd H1 b (.lst ([V.ref l, .int i, .int r, .int m, .int n].set 3 (.int ((m * m * 19 + m * 47111 + n * 110323 + 60089) % 2147483549))))) := s1.trans Stp.put
        generalize upd H1 b (.lst ([V.ref l, .int i, .int r, .int m, .int n].set 3 (.int ((m * m * 19 + m * 47111 + n * 110323 + 60089) % 2147483549)))) = H2 at hb2 hl2 s2 ⊢
        generalize (m * m * 19 + m * 47111 + n * 110323 + 60089) % 2147483549 = m2 at hb2 hm0 hm1 ⊢
        refine ⟨.ref b, rfl, b, _, 3, .int m2, rfl, rfl, SqL.of hb2, atI_nat (j := 3) rfl, _, _, rfl, rfl, ⟨by decide, by decide⟩, .ref b, rfl, b, _, 3, .int m2, rfl, rfl, SqL.of hb2, atI_nat (j := 3) rfl, .inl ⟨_, rfl, _, _, rfl, rfl, (by show (0 : Int) < 8017; decide), _, _, rfl, rfl, .inr ⟨by decide, by decide⟩, _, _, rfl, rfl, .inl ⟨_, rfl, .int d, rfl, _, _, rfl, rfl, d0, ?_⟩⟩⟩
        exact k _ _ s2 ⟨ns, i, r, m2, n, hb2, hl2, nlb, hlen, r0, hm0, by omega⟩ (Int.emod_nonneg _ (by omega)) (Int.emod_lt_of_pos _ d0)
/-! ### _law_of -/
/-- what is drawn from: a text, or a list that is not the bag; P what holds of each thing -/
def Thg (K : PySem.W.Frag) (H : Hp) (b : Addr) (t : V) (Pt : V → Prop) : Prop := (∃ z : Str, t = .str z ∧ 0 < z.cps.size ∧ z.cps.size ≤ 100000 ∧ ∀ c ∈ z.cps.toList, Pt (.str ⟨#[c]⟩)) ∨ ∃ (a : Addr) (xs : List V), t = .ref a ∧ a ≠ b ∧ SqL K H a xs ∧ 0 < xs.length ∧ xs.length ≤ 100000 ∧ ∀ v ∈ xs, Pt v
def sp_law_of (K : PySem.W.Frag) : Sp := fun vs H Q _ => ∃ (b l : Addr) (t : V) (Pt : V → Prop), vs = [.ref b, t] ∧ Bag H b l ∧ Thg K H b t Pt ∧ ∀ (H' : Hp) (v : V), Stp b H H' → Bag H' b l → Pt v → Q v H'
theorem ok_law_of (T : Txt K w mg Z) : FnOk P w K mg base CX0 2 Z.a_law_of Z.d_law_of ["_law_bag_here", "_law_things"] (sp_law_of K) := by
  have G_law_draw : FnOk P w K mg base CX0 1 Z.a_law_draw Z.d_law_draw ["_law_bag_here", "_law_sides"] sp_law_draw := ok_law_draw T
  refine T.F_law_of.ok sc_law_of (fun vs H Q E h => ?_) (fun cdv A outer s H vs Q E hr h => ?_)
  · obtain ⟨b, l, t, Pt, rfl, _⟩ := h
    rfl
  · obtain ⟨b, l, t, Pt, rfl, B, ht, k⟩ := h
    refine ⟨_, (pss_one (ps_ret (pe_ix ix_seq (pv 1) (pe_call G_law_draw (hr.mono (by omega)) (by rfl) T.m_law_draw T.F_law_draw.kp T.b_law_draw .nil pass0 (pa_cons (pv 0) (pa_cons (pe_callB call_len (by rfl) T.n_len boot_len (pa_cons (pv 1) pa_nil)) pa_nil))) (fun _ _ => rfl)))), ?_⟩
    rcases ht with ⟨z, rfl, z0, z1, hz⟩ | ⟨a, xs, rfl, nab, hx, x0, x1, hv⟩
    · refine ⟨_, rfl, .ref b, rfl, .str z, rfl, .str z, z.cps.size, rfl, ⟨Nat.le_trans z1 (by decide), rfl⟩, b, l, _, rfl, B, by omega, by omega, fun H' v s1 B1 v0 v1 => ?_⟩
      obtain ⟨c, hc, hm⟩ := mem_at (xs := z.cps.toList) v0 (by simpa using v1)
      exact .inr (.inr ⟨z, v, c, rfl, rfl, Nat.le_trans z1 (by decide), hc, k _ _ s1 B1 (hz c hm)⟩)
    · refine ⟨_, rfl, .ref b, rfl, .ref a, rfl, .ref a, xs.length, rfl, .inl ⟨_, hx, rfl⟩, b, l, _, rfl, B, by omega, by omega, fun H' v s1 B1 v0 v1 => ?_⟩
      obtain ⟨c, hc, hm⟩ := mem_at (xs := xs) v0 v1
      exact .inl ⟨a, xs, v, c, rfl, rfl, s1.sqL nab hx, hc, k _ _ s1 B1 (hv c hm)⟩
end

theorem iteN {p A B : Prop} [Decidable p] (h : ¬ p) (q : B) : if decide p = true then A else B := by
  rw [decide_eq_false h]
  exact iteF q
theorem iteY {p A B : Prop} [Decidable p] (h : p) (q : A) : if decide p = true then A else B := by
  rw [decide_eq_true h]
  exact iteT q
theorem Same.put {H H' : Hp} {p : Addr} {o : HO} (s : Same H H') (h : H p = none) : Same H (upd H' p o) := fun a u e => by
  rw [upd_ne (ne_of_none e h)]
  exact s a u e
theorem Same.sqT {K : PySem.W.Frag} {H H' : Hp} {a : Addr} {xs : List V} (e : Same H H') (h : SqT K H a xs) : SqT K H' a xs := by
  rcases h with (h | ⟨o, h⟩) | h
  · exact .inl (.inl (e _ _ h))
  · exact .inl (.inr ⟨o, e _ _ h⟩)
  · exact .inr h
theorem tyx_l {K : PySem.W.Frag} {H : Hp} {a : Addr} {xs : List V} (h : SqL K H a xs) : TyX K H (.ref a) (.type "list") := by
  rcases h with (h | ⟨o, h⟩) | ⟨o, its, n, h, hc, _⟩
  · exact .base (.lst h)
  · exact .base (.frz h)
  · exact .kList h hc
theorem tyx_t {K : PySem.W.Frag} {H : Hp} {a : Addr} {xs : List V} (h : SqT K H a xs) : TyX K H (.ref a) (.type "tuple") := by
  rcases h with (h | ⟨o, h⟩) | ⟨o, its, n, h, hc, _⟩
  · exact .base (.tup h)
  · exact .fTuple h
  · exact .kTuple h hc
/-- the name of a flat value's type -/
def flatT : V → String
  | .bl _ => "bool"
  | .int _ => "int"
  | .str _ => "str"
  | _ => "NoneType"
theorem tyx_f {K : PySem.W.Frag} {H : Hp} {x : V} (h : flatV x = true) : TyX K H x (.type (flatT x)) := by
  cases x with
  | non => exact .base .non
  | bl b => exact .base (.bl b)
  | int i => exact .base (.int i)
  | str z => exact .base (.str z)
  | _ => cases h
theorem walk_zipT {K : PySem.W.Frag} {a b : Addr} {xs ys : List V} {n : Nat} (hn : n = min xs.length ys.length) : Walk (RZ.ItzT K a b) n (fun H => SqT K H a xs ∧ SqT K H b ys) (YPair (fun i => xs[i]?) (fun i => ys[i]?)) := by
  subst hn
  refine ⟨fun i _ hi q => ?_, fun _ q => ⟨xs, ys, q.1, q.2, by omega⟩, fun i H v H' _ q y => ?_⟩
  · have h1 : i < xs.length := by omega
    have h2 : i < ys.length := by omega
    exact ⟨xs, ys, xs[i], ys[i], q.1, q.2, by simp [h1], by simp [h2]⟩
  · obtain ⟨T, x, z, h1, h2, h3, h4, h5⟩ := y
    exact ⟨T, x, z, h1, h2, h3, h4 xs q.1, h5 ys q.2⟩
theorem all_rep (n : Nat) : (List.replicate n true).all id = true := by
  rw [List.all_eq_true]
  intro x hx
  rw [(List.mem_replicate.mp hx).2]
  rfl
/-- two values that are the same data, n deep at most -/
def Eqd (K : PySem.W.Frag) (H : Hp) : Nat → V → V → Prop
  | 0, x, y => flatV x = true ∧ x = y
  | n + 1, x, y => (flatV x = true ∧ x = y) ∨ ∃ (a b : Addr) (xs ys : List V), x = .ref a ∧ y = .ref b ∧ ((SqL K H a xs ∧ SqL K H b ys) ∨ (SqT K H a xs ∧ SqT K H b ys)) ∧ xs.length = ys.length ∧ xs.length ≤ 100000 ∧ ∀ (i : Nat) (u v : V), xs[i]? = some u → ys[i]? = some v → Eqd K H n u v
theorem Eqd.same {K : PySem.W.Frag} {H H' : Hp} (s : Same H H') : ∀ {n : Nat} {x y : V}, Eqd K H n x y → Eqd K H' n x y
  | 0, _, _, h => h
  | n + 1, _, _, .inl h => .inl h
  | n + 1, _, _, .inr ⟨a, b, xs, ys, e1, e2, h, hl, hz, hi⟩ => .inr ⟨a, b, xs, ys, e1, e2, by
      rcases h with ⟨h1, h2⟩ | ⟨h1, h2⟩
      · exact .inl ⟨s.seq h1, s.seq h2⟩
      · exact .inr ⟨Same.sqT s h1, Same.sqT s h2⟩, hl, hz, fun i u v hu hv => (hi i u v hu hv).same s⟩
theorem Eqd.flat {K : PySem.W.Frag} {H : Hp} {n : Nat} {x : V} (h : flatV x = true) : Eqd K H n x x := by
  cases n with
  | zero => exact ⟨h, rfl⟩
  | succ n => exact .inl ⟨h, rfl⟩
theorem kitLT {K : PySem.W.Frag} {T : String} (h1 : kitB T "list" = some false) (h2 : kitB T "tuple" = some false) : PySem.W.kitAny K (.type T) [.type "list", .type "tuple"] = some false :=
  kitAny_cons (b := false) (kit_ty h1) (fun _ => kitAny_cons (b := false) (kit_ty h2) (fun _ => kitAny_nil) fun e => nomatch e) fun e => nomatch e
theorem kitLl {K : PySem.W.Frag} : PySem.W.kitAny K (.type "list") [.type "list", .type "tuple"] = some true :=
  kitAny_cons (b := true) (kit_ty (by decide +kernel)) (fun e => nomatch e) fun _ => rfl
theorem kitLt {K : PySem.W.Frag} : PySem.W.kitAny K (.type "tuple") [.type "list", .type "tuple"] = some true :=
  kitAny_cons (b := false) (kit_ty (by decide +kernel)) (fun _ => kitAny_cons (b := true) (kit_ty (by decide +kernel)) (fun e => nomatch e) fun _ => rfl) fun e => nomatch e

section
variable {P : Program} {w : World} {K : PySem.W.Frag} {mg : Str → Option Value} {base : Heap} {Z : Fs}
/-! ### _law_same -/
def sp_law_same (K : PySem.W.Frag) (n : Nat) : Sp := fun vs H Q _ => ∃ x y : V, vs = [x, y] ∧ Eqd K H n x y ∧ ∀ H' : Hp, Same H H' → Q (.bl true) H'
theorem ok_law_same (T : Txt K w mg Z) : ∀ n : Nat, FnOk P w K mg base CX0 (n + 1) Z.a_law_same Z.d_law_same ["_law_found", "_law_due"] (sp_law_same K n)
  | 0 => by
    refine T.F_law_same.ok sc_law_same (fun vs H Q E h => ?_) (fun cdv A outer s H vs Q E hr h => ?_)
    · obtain ⟨x, y, rfl, _⟩ := h
      rfl
    · obtain ⟨x, y, rfl, ⟨hf, rfl⟩, k⟩ := h
      refine ⟨_, (pss_cons (ps_if (PW.pt (pw_or (pt_cmp (pc_isN (pv 1))) (pw_or1 (pt_cmp (pc_isN (pv 0)))))) (pss_one (ps_ret (pe_and (pe_cmp (pc_isN (pv 1)) rfl) (pe_one (pe_cmp (pc_isN (pv 0)) rfl))))) pss_nil)
      (pss_cons (ps_if (pt_val (pe_callB call_isiT (by rfl) T.n_isinstance boot_isinstance (pa_cons (pv 1) (pa_cons (pe_tup (pa_cons (pe_bltn (v := .ty "list") (by rfl) T.n_list boot_list rfl) (pa_cons (pe_bltn (v := .ty "tuple") (by rfl) T.n_tuple boot_tuple rfl) pa_nil))) pa_nil)))) pss_never pss_nil)
      (pss_cons (ps_if (PW.pt (pw_or (pt_cmpR op_ne (pe_callB call_isi (by rfl) T.n_isinstance boot_isinstance (pa_cons (pv 1) (pa_cons (pe_bltn (v := .ty "bool") (by rfl) T.n_bool boot_bool rfl) pa_nil))) (pe_callB call_isi (by rfl) T.n_isinstance boot_isinstance (pa_cons (pv 0) (pa_cons (pe_bltn (v := .ty "bool") (by rfl) T.n_bool boot_bool rfl) pa_nil))) (nomark _)) (pw_or1 (pt_cmpR op_ne (pe_callB call_isi (by rfl) T.n_isinstance boot_isinstance (pa_cons (pv 1) (pa_cons (pe_bltn (v := .ty "int") (by rfl) T.n_int boot_int rfl) pa_nil))) (pe_callB call_isi (by rfl) T.n_isinstance boot_isinstance (pa_cons (pv 0) (pa_cons (pe_bltn (v := .ty "int") (by rfl) T.n_int boot_int rfl) pa_nil))) (nomark _))))) (pss_one (ps_ret pe_bl)) pss_nil)
      (pss_one (ps_ret (pe_and (pe_cmpR op_eq (pe_callB call_isi (by rfl) T.n_isinstance boot_isinstance (pa_cons (pv 1) (pa_cons (pe_bltn (v := .ty "str") (by rfl) T.n_str boot_str rfl) pa_nil))) (pe_callB call_isi (by rfl) T.n_isinstance boot_isinstance (pa_cons (pv 0) (pa_cons (pe_bltn (v := .ty "str") (by rfl) T.n_str boot_str rfl) pa_nil))) (nomark _)) (pe_one (pe_cmpR op_eq (pv 0) (pv 1) (nomark _))))))))), ?_⟩
      cases x with
      | non => exact ⟨.non, rfl, _, rfl, iteY rfl ⟨.non, rfl, _, rfl, iteY rfl ⟨.non, rfl, k _ (Same.refl _)⟩⟩⟩
      | bl v =>
        refine ⟨.bl v, rfl, _, rfl, iteN (fun e => nomatch e) ⟨.bl v, rfl, _, rfl, iteN (fun e => nomatch e) ?_⟩⟩
        refine ⟨.bl v, rfl, (by show 2 ≤ sizeLine; decide), fun p hp => ⟨.bl v, p, _, _, _, false, rfl, upd_same, .cons (.ty _) (.cons (.ty _) .nil), .base (.bl v), kitLT (by decide +kernel) (by decide +kernel), _, rfl, iteF ?_⟩⟩
        refine ⟨.bl v, rfl, .bl v, .ty "bool", _, _, true, rfl, .ty _, .base (.bl v), kit_ty (by decide +kernel), .bl v, rfl, .bl v, .ty "bool", _, _, true, rfl, .ty _, .base (.bl v), kit_ty (by decide +kernel), rfl, _, rfl, iteNS rfl ?_⟩
        refine ⟨.bl v, rfl, .bl v, .ty "int", _, _, true, rfl, .ty _, .base (.bl v), kit_ty (by decide +kernel), .bl v, rfl, .bl v, .ty "int", _, _, true, rfl, .ty _, .base (.bl v), kit_ty (by decide +kernel), rfl, _, rfl, iteNS rfl ?_⟩
        refine ⟨.bl v, rfl, .bl v, .ty "str", _, _, false, rfl, .ty _, .base (.bl v), kit_ty (by decide +kernel), .bl v, rfl, .bl v, .ty "str", _, _, false, rfl, .ty _, .base (.bl v), kit_ty (by decide +kernel), rfl, _, rfl, iteY rfl ?_⟩
        refine ⟨.bl v, rfl, .bl v, rfl, rfl, ?_⟩
        show Q (.bl (decide (V.bl v = V.bl v))) _
        rw [decide_eq_true rfl]
        exact k _ (Same.new hp)
      | int v =>
        refine ⟨.int v, rfl, _, rfl, iteN (fun e => nomatch e) ⟨.int v, rfl, _, rfl, iteN (fun e => nomatch e) ?_⟩⟩
        refine ⟨.int v, rfl, (by show 2 ≤ sizeLine; decide), fun p hp => ⟨.int v, p, _, _, _, false, rfl, upd_same, .cons (.ty _) (.cons (.ty _) .nil), .base (.int v), kitLT (by decide +kernel) (by decide +kernel), _, rfl, iteF ?_⟩⟩
        refine ⟨.int v, rfl, .int v, .ty "bool", _, _, false, rfl, .ty _, .base (.int v), kit_ty (by decide +kernel), .int v, rfl, .int v, .ty "bool", _, _, false, rfl, .ty _, .base (.int v), kit_ty (by decide +kernel), rfl, _, rfl, iteNS rfl ?_⟩
        refine ⟨.int v, rfl, .int v, .ty "int", _, _, true, rfl, .ty _, .base (.int v), kit_ty (by decide +kernel), .int v, rfl, .int v, .ty "int", _, _, true, rfl, .ty _, .base (.int v), kit_ty (by decide +kernel), rfl, _, rfl, iteNS rfl ?_⟩
        refine ⟨.int v, rfl, .int v, .ty "str", _, _, false, rfl, .ty _, .base (.int v), kit_ty (by decide +kernel), .int v, rfl, .int v, .ty "str", _, _, false, rfl, .ty _, .base (.int v), kit_ty (by decide +kernel), rfl, _, rfl, iteY rfl ?_⟩
        refine ⟨.int v, rfl, .int v, rfl, rfl, ?_⟩
        show Q (.bl (decide (V.int v = V.int v))) _
        rw [decide_eq_true rfl]
        exact k _ (Same.new hp)
      | str v =>
        refine ⟨.str v, rfl, _, rfl, iteN (fun e => nomatch e) ⟨.str v, rfl, _, rfl, iteN (fun e => nomatch e) ?_⟩⟩
        refine ⟨.str v, rfl, (by show 2 ≤ sizeLine; decide), fun p hp => ⟨.str v, p, _, _, _, false, rfl, upd_same, .cons (.ty _) (.cons (.ty _) .nil), .base (.str v), kitLT (by decide +kernel) (by decide +kernel), _, rfl, iteF ?_⟩⟩
        refine ⟨.str v, rfl, .str v, .ty "bool", _, _, false, rfl, .ty _, .base (.str v), kit_ty (by decide +kernel), .str v, rfl, .str v, .ty "bool", _, _, false, rfl, .ty _, .base (.str v), kit_ty (by decide +kernel), rfl, _, rfl, iteNS rfl ?_⟩
        refine ⟨.str v, rfl, .str v, .ty "int", _, _, false, rfl, .ty _, .base (.str v), kit_ty (by decide +kernel), .str v, rfl, .str v, .ty "int", _, _, false, rfl, .ty _, .base (.str v), kit_ty (by decide +kernel), rfl, _, rfl, iteNS rfl ?_⟩
        refine ⟨.str v, rfl, .str v, .ty "str", _, _, true, rfl, .ty _, .base (.str v), kit_ty (by decide +kernel), .str v, rfl, .str v, .ty "str", _, _, true, rfl, .ty _, .base (.str v), kit_ty (by decide +kernel), rfl, _, rfl, iteY rfl ?_⟩
        refine ⟨.str v, rfl, .str v, rfl, rfl, ?_⟩
        show Q (.bl (decide (V.str v = V.str v))) _
        rw [decide_eq_true rfl]
        exact k _ (Same.new hp)
      | _ => cases hf
  | n + 1 => by
    have G_law_same : FnOk P w K mg base CX0 (n + 1) Z.a_law_same Z.d_law_same ["_law_found", "_law_due"] (sp_law_same K n) := ok_law_same T n
    refine T.F_law_same.ok sc_law_same (fun vs H Q E h => ?_) (fun cdv A outer s H vs Q E hr h => ?_)
    · obtain ⟨x, y, rfl, _⟩ := h
      rfl
    · obtain ⟨x, y, rfl, hd, k⟩ := h
      refine ⟨_, (pss_cons (ps_if (PW.pt (pw_or (pt_cmp (pc_isN (pv 1))) (pw_or1 (pt_cmp (pc_isN (pv 0)))))) (pss_one (ps_ret (pe_and (pe_cmp (pc_isN (pv 1)) rfl) (pe_one (pe_cmp (pc_isN (pv 0)) rfl))))) pss_nil)
      (pss_cons (ps_if (pt_val (pe_callB call_isiT (by rfl) T.n_isinstance boot_isinstance (pa_cons (pv 1) (pa_cons (pe_tup (pa_cons (pe_bltn (v := .ty "list") (by rfl) T.n_list boot_list rfl) (pa_cons (pe_bltn (v := .ty "tuple") (by rfl) T.n_tuple boot_tuple rfl) pa_nil))) pa_nil)))) (pss_cons (ps_if (PW.pt (pw_or (pt_cmpR op_ne (pe_callB call_isi (by rfl) T.n_isinstance boot_isinstance (pa_cons (pv 0) (pa_cons (pe_bltn (v := .ty "list") (by rfl) T.n_list boot_list rfl) pa_nil))) (pe_callB call_isi (by rfl) T.n_isinstance boot_isinstance (pa_cons (pv 1) (pa_cons (pe_bltn (v := .ty "list") (by rfl) T.n_list boot_list rfl) pa_nil))) (nomark _)) (pw_or1 (pt_cmpR op_ne (pe_callB call_isi (by rfl) T.n_isinstance boot_isinstance (pa_cons (pv 0) (pa_cons (pe_bltn (v := .ty "tuple") (by rfl) T.n_tuple boot_tuple rfl) pa_nil))) (pe_callB call_isi (by rfl) T.n_isinstance boot_isinstance (pa_cons (pv 1) (pa_cons (pe_bltn (v := .ty "tuple") (by rfl) T.n_tuple boot_tuple rfl) pa_nil))) (nomark _))))) (pss_one (ps_ret pe_bl)) pss_nil)
      (pss_one (ps_ret (pe_and (pe_cmpR op_eq (pe_callB call_len (by rfl) T.n_len boot_len (pa_cons (pv 0) pa_nil)) (pe_callB call_len (by rfl) T.n_len boot_len (pa_cons (pv 1) pa_nil)) (nomark _)) (pe_one (pe_callB (cr_all rfl) (by rfl) T.n_all boot_all (pa_cons (pe_lc (own := [("_law_a", 2), ("_law_b", 3)]) (g := gTup K 2 (gCons (gName 2) (gCons (gName 3) gNil))) (tt := tYes) rfl sc_law_same.nd (RZ.pi_zipA (by rfl) T.n_zip (pa_cons (pv 0) (pa_cons (pv 1) pa_nil))) (blkOk_by (N := N_law_same) (sc := defScope s_law_same) (by decide +kernel)) (fun _ _ _ _ _ => pg_tup rfl (pgs_cons (pg_name (i := 2) sc_law_same.nd rfl (Or.inl rfl)) (pgs_cons (pg_name (i := 3) sc_law_same.nd rfl (Or.inl rfl)) pgs_nil))) (fun _ _ _ _ _ => pts_nil) (fun _ _ _ _ _ => (pe_call G_law_same (hr.mono (by omega)) (by rfl) T.m_law_same T.F_law_same.kp T.b_law_same .nil pass0 (pa_cons (pv 2) (pa_cons (pv 3) pa_nil))))) pa_nil))))))) pss_nil)
      (pss_cons (ps_if (PW.pt (pw_or (pt_cmpR op_ne (pe_callB call_isi (by rfl) T.n_isinstance boot_isinstance (pa_cons (pv 1) (pa_cons (pe_bltn (v := .ty "bool") (by rfl) T.n_bool boot_bool rfl) pa_nil))) (pe_callB call_isi (by rfl) T.n_isinstance boot_isinstance (pa_cons (pv 0) (pa_cons (pe_bltn (v := .ty "bool") (by rfl) T.n_bool boot_bool rfl) pa_nil))) (nomark _)) (pw_or1 (pt_cmpR op_ne (pe_callB call_isi (by rfl) T.n_isinstance boot_isinstance (pa_cons (pv 1) (pa_cons (pe_bltn (v := .ty "int") (by rfl) T.n_int boot_int rfl) pa_nil))) (pe_callB call_isi (by rfl) T.n_isinstance boot_isinstance (pa_cons (pv 0) (pa_cons (pe_bltn (v := .ty "int") (by rfl) T.n_int boot_int rfl) pa_nil))) (nomark _))))) (pss_one (ps_ret pe_bl)) pss_nil)
      (pss_one (ps_ret (pe_and (pe_cmpR op_eq (pe_callB call_isi (by rfl) T.n_isinstance boot_isinstance (pa_cons (pv 1) (pa_cons (pe_bltn (v := .ty "str") (by rfl) T.n_str boot_str rfl) pa_nil))) (pe_callB call_isi (by rfl) T.n_isinstance boot_isinstance (pa_cons (pv 0) (pa_cons (pe_bltn (v := .ty "str") (by rfl) T.n_str boot_str rfl) pa_nil))) (nomark _)) (pe_one (pe_cmpR op_eq (pv 0) (pv 1) (nomark _))))))))), ?_⟩
      rcases hd with ⟨hf, rfl⟩ | ⟨a, b, xs, ys, rfl, rfl, hd, hl, hz, hi⟩
      · cases x with
        | non => exact ⟨.non, rfl, _, rfl, iteY rfl ⟨.non, rfl, _, rfl, iteY rfl ⟨.non, rfl, k _ (Same.refl _)⟩⟩⟩
        | bl v =>
          refine ⟨.bl v, rfl, _, rfl, iteN (fun e => nomatch e) ⟨.bl v, rfl, _, rfl, iteN (fun e => nomatch e) ?_⟩⟩
          refine ⟨.bl v, rfl, (by show 2 ≤ sizeLine; decide), fun p hp => ⟨.bl v, p, _, _, _, false, rfl, upd_same, .cons (.ty _) (.cons (.ty _) .nil), .base (.bl v), kitLT (by decide +kernel) (by decide +kernel), _, rfl, iteF ?_⟩⟩
          refine ⟨.bl v, rfl, .bl v, .ty "bool", _, _, true, rfl, .ty _, .base (.bl v), kit_ty (by decide +kernel), .bl v, rfl, .bl v, .ty "bool", _, _, true, rfl, .ty _, .base (.bl v), kit_ty (by decide +kernel), rfl, _, rfl, iteNS rfl ?_⟩
          refine ⟨.bl v, rfl, .bl v, .ty "int", _, _, true, rfl, .ty _, .base (.bl v), kit_ty (by decide +kernel), .bl v, rfl, .bl v, .ty "int", _, _, true, rfl, .ty _, .base (.bl v), kit_ty (by decide +kernel), rfl, _, rfl, iteNS rfl ?_⟩
          refine ⟨.bl v, rfl, .bl v, .ty "str", _, _, false, rfl, .ty _, .base (.bl v), kit_ty (by decide +kernel), .bl v, rfl, .bl v, .ty "str", _, _, false, rfl, .ty _, .base (.bl v), kit_ty (by decide +kernel), rfl, _, rfl, iteY rfl ?_⟩
          refine ⟨.bl v, rfl, .bl v, rfl, rfl, ?_⟩
          show Q (.bl (decide (V.bl v = V.bl v))) _
          rw [decide_eq_true rfl]
          exact k _ (Same.new hp)
        | int v =>
          refine ⟨.int v, rfl, _, rfl, iteN (fun e => nomatch e) ⟨.int v, rfl, _, rfl, iteN (fun e => nomatch e) ?_⟩⟩
          refine ⟨.int v, rfl, (by show 2 ≤ sizeLine; decide), fun p hp => ⟨.int v, p, _, _, _, false, rfl, upd_same, .cons (.ty _) (.cons (.ty _) .nil), .base (.int v), kitLT (by decide +kernel) (by decide +kernel), _, rfl, iteF ?_⟩⟩
          refine ⟨.int v, rfl, .int v, .ty "bool", _, _, false, rfl, .ty _, .base (.int v), kit_ty (by decide +kernel), .int v, rfl, .int v, .ty "bool", _, _, false, rfl, .ty _, .base (.int v), kit_ty (by decide +kernel), rfl, _, rfl, iteNS rfl ?_⟩
          refine ⟨.int v, rfl, .int v, .ty "int", _, _, true, rfl, .ty _, .base (.int v), kit_ty (by decide +kernel), .int v, rfl, .int v, .ty "int", _, _, true, rfl, .ty _, .base (.int v), kit_ty (by decide +kernel), rfl, _, rfl, iteNS rfl ?_⟩
          refine ⟨.int v, rfl, .int v, .ty "str", _, _, false, rfl, .ty _, .base (.int v), kit_ty (by decide +kernel), .int v, rfl, .int v, .ty "str", _, _, false, rfl, .ty _, .base (.int v), kit_ty (by decide +kernel), rfl, _, rfl, iteY rfl ?_⟩
          refine ⟨.int v, rfl, .int v, rfl, rfl, ?_⟩
          show Q (.bl (decide (V.int v = V.int v))) _
          rw [decide_eq_true rfl]
          exact k _ (Same.new hp)
        | str v =>
          refine ⟨.str v, rfl, _, rfl, iteN (fun e => nomatch e) ⟨.str v, rfl, _, rfl, iteN (fun e => nomatch e) ?_⟩⟩
          refine ⟨.str v, rfl, (by show 2 ≤ sizeLine; decide), fun p hp => ⟨.str v, p, _, _, _, false, rfl, upd_same, .cons (.ty _) (.cons (.ty _) .nil), .base (.str v), kitLT (by decide +kernel) (by decide +kernel), _, rfl, iteF ?_⟩⟩
          refine ⟨.str v, rfl, .str v, .ty "bool", _, _, false, rfl, .ty _, .base (.str v), kit_ty (by decide +kernel), .str v, rfl, .str v, .ty "bool", _, _, false, rfl, .ty _, .base (.str v), kit_ty (by decide +kernel), rfl, _, rfl, iteNS rfl ?_⟩
          refine ⟨.str v, rfl, .str v, .ty "int", _, _, false, rfl, .ty _, .base (.str v), kit_ty (by decide +kernel), .str v, rfl, .str v, .ty "int", _, _, false, rfl, .ty _, .base (.str v), kit_ty (by decide +kernel), rfl, _, rfl, iteNS rfl ?_⟩
          refine ⟨.str v, rfl, .str v, .ty "str", _, _, true, rfl, .ty _, .base (.str v), kit_ty (by decide +kernel), .str v, rfl, .str v, .ty "str", _, _, true, rfl, .ty _, .base (.str v), kit_ty (by decide +kernel), rfl, _, rfl, iteY rfl ?_⟩
          refine ⟨.str v, rfl, .str v, rfl, rfl, ?_⟩
          show Q (.bl (decide (V.str v = V.str v))) _
          rw [decide_eq_true rfl]
          exact k _ (Same.new hp)
        | _ => cases hf
      · refine ⟨.ref b, rfl, _, rfl, iteN (fun e => nomatch e) ⟨.ref a, rfl, _, rfl, iteN (fun e => nomatch e) ?_⟩⟩
        rcases hd with ⟨h1, h2⟩ | ⟨h1, h2⟩
        · refine ⟨.ref b, rfl, (by show 2 ≤ sizeLine; decide), fun p hp => ?_⟩
          have s1 : Same H (upd H p (.tup [.ty "list", .ty "tuple"])) := Same.new hp
          refine ⟨.ref b, p, _, _, _, true, rfl, upd_same, .cons (.ty _) (.cons (.ty _) .nil), tyx_l (s1.seq h2), kitLl, _, rfl, iteT ?_⟩
          generalize upd H p (.tup [.ty "list", .ty "tuple"]) = H1 at s1 ⊢
          have g1 := s1.seq h1
          have g2 := s1.seq h2
          refine ⟨.ref a, rfl, .ref a, .ty "list", _, _, true, rfl, .ty _, tyx_l g1, kit_ty (by decide +kernel), .ref b, rfl, .ref b, .ty "list", _, _, true, rfl, .ty _, tyx_l g2, kit_ty (by decide +kernel), rfl, _, rfl, iteNS rfl ?_⟩
          refine ⟨.ref a, rfl, .ref a, .ty "tuple", _, _, false, rfl, .ty _, tyx_l g1, kit_ty (by decide +kernel), .ref b, rfl, .ref b, .ty "tuple", _, _, false, rfl, .ty _, tyx_l g2, kit_ty (by decide +kernel), rfl, _, rfl, iteNS rfl ?_⟩
          refine ⟨.ref a, rfl, .ref a, _, rfl, .inl ⟨_, g1, rfl⟩, .ref b, rfl, .ref b, _, rfl, .inl ⟨_, g2, rfl⟩, rfl, _, rfl, iteY (by rw [hl]) ?_⟩
          refine ⟨.ref a, rfl, .ref b, rfl, a, b, xs, ys, rfl, .inl ⟨g1, g2, fun D hD => ?_⟩⟩
          have hD0 : H D = none := s1.free hD
          refine lc_it (walk_zip (K := K) (xs := xs) (ys := ys) (n := xs.length) (by omega)) (fun i H' => Same H H' ∧ H' D = some (.lst ((List.replicate i true).map V.bl))) ⟨Same.put s1 hD0, upd_same⟩ (fun i H' _ q => ⟨q.1.seq h1, q.1.seq h2⟩) ?_ ?_
          · rintro i v H2 H3 hi' ⟨s2, e2⟩ ⟨T, u, t, rfl, hT, rfl, hu, ht⟩
            refine ⟨T, [u, t], rfl, SqT.of upd_same, rfl, u, [t], rfl, t, [], rfl, rfl, rfl, u, rfl, t, rfl, u, t, rfl, ((hi i u t hu ht).same s2).same (Same.new hT), fun H4 s4 => ?_⟩
            have nDT : D ≠ T := ne_of_none e2 hT
            refine ⟨_, s4 _ _ (by rw [upd_ne nDT]; exact e2), ?_, (Same.put ((s2.trans (Same.new hT)).trans s4) hD0), ?_⟩
            · rw [List.length_map, List.length_replicate]
              exact Nat.lt_of_lt_of_le hi' (Nat.le_trans hz (by decide))
            · rw [upd_same, List.replicate_succ', List.map_append]
              rfl
          · rintro H' ⟨s2, e2⟩
            refine ⟨D, List.replicate xs.length true, rfl, SqL.of e2, ?_⟩
            rw [all_rep]
            exact k _ s2
        · refine ⟨.ref b, rfl, (by show 2 ≤ sizeLine; decide), fun p hp => ?_⟩
          have s1 : Same H (upd H p (.tup [.ty "list", .ty "tuple"])) := Same.new hp
          refine ⟨.ref b, p, _, _, _, true, rfl, upd_same, .cons (.ty _) (.cons (.ty _) .nil), tyx_t (Same.sqT s1 h2), kitLt, _, rfl, iteT ?_⟩
          generalize upd H p (.tup [.ty "list", .ty "tuple"]) = H1 at s1 ⊢
          have g1 := Same.sqT s1 h1
          have g2 := Same.sqT s1 h2
          refine ⟨.ref a, rfl, .ref a, .ty "list", _, _, false, rfl, .ty _, tyx_t g1, kit_ty (by decide +kernel), .ref b, rfl, .ref b, .ty "list", _, _, false, rfl, .ty _, tyx_t g2, kit_ty (by decide +kernel), rfl, _, rfl, iteNS rfl ?_⟩
          refine ⟨.ref a, rfl, .ref a, .ty "tuple", _, _, true, rfl, .ty _, tyx_t g1, kit_ty (by decide +kernel), .ref b, rfl, .ref b, .ty "tuple", _, _, true, rfl, .ty _, tyx_t g2, kit_ty (by decide +kernel), rfl, _, rfl, iteNS rfl ?_⟩
          refine ⟨.ref a, rfl, .ref a, _, rfl, .inr ⟨_, g1, rfl⟩, .ref b, rfl, .ref b, _, rfl, .inr ⟨_, g2, rfl⟩, rfl, _, rfl, iteY (by rw [hl]) ?_⟩
          refine ⟨.ref a, rfl, .ref b, rfl, a, b, xs, ys, rfl, .inr ⟨g1, g2, fun D hD => ?_⟩⟩
          have hD0 : H D = none := s1.free hD
          refine lc_it (walk_zipT (K := K) (xs := xs) (ys := ys) (n := xs.length) (by omega)) (fun i H' => Same H H' ∧ H' D = some (.lst ((List.replicate i true).map V.bl))) ⟨Same.put s1 hD0, upd_same⟩ (fun i H' _ q => ⟨Same.sqT q.1 h1, Same.sqT q.1 h2⟩) ?_ ?_
          · rintro i v H2 H3 hi' ⟨s2, e2⟩ ⟨T, u, t, rfl, hT, rfl, hu, ht⟩
            refine ⟨T, [u, t], rfl, SqT.of upd_same, rfl, u, [t], rfl, t, [], rfl, rfl, rfl, u, rfl, t, rfl, u, t, rfl, ((hi i u t hu ht).same s2).same (Same.new hT), fun H4 s4 => ?_⟩
            have nDT : D ≠ T := ne_of_none e2 hT
            refine ⟨_, s4 _ _ (by rw [upd_ne nDT]; exact e2), ?_, (Same.put ((s2.trans (Same.new hT)).trans s4) hD0), ?_⟩
            · rw [List.length_map, List.length_replicate]
              exact Nat.lt_of_lt_of_le hi' (Nat.le_trans hz (by decide))
            · rw [upd_same, List.replicate_succ', List.map_append]
              rfl
          · rintro H' ⟨s2, e2⟩
            refine ⟨D, List.replicate xs.length true, rfl, SqL.of e2, ?_⟩
            rw [all_rep]
            exact k _ s2
end

/-! ### values of every kind -/
/-- a text of ordinary size and signs -/
def StrK (z : Str) : Prop := z.cps.size ≤ 100000 ∧ ∀ c ∈ z.cps.toList, c < 1114112
/-- a value of data, n deep at most, none of whose lists is the bag -/
def Okv (K : PySem.W.Frag) (H : Hp) (b : Addr) : Nat → V → Prop
  | 0, v => flatV v = true ∧ ∀ z, v = .str z → StrK z
  | n + 1, v => (flatV v = true ∧ ∀ z, v = .str z → StrK z) ∨ ∃ (a : Addr) (xs : List V), v = .ref a ∧ a ≠ b ∧ (SqL K H a xs ∨ SqT K H a xs) ∧ xs.length ≤ 100000 ∧ ∀ x ∈ xs, Okv K H b n x
theorem Okv.stp {K : PySem.W.Frag} {H H' : Hp} {b : Addr} (s : Stp b H H') : ∀ {n : Nat} {v : V}, Okv K H b n v → Okv K H' b n v
  | 0, _, h => h
  | n + 1, _, .inl h => .inl h
  | n + 1, _, .inr ⟨a, xs, e, ne, h, hl, hx⟩ => .inr ⟨a, xs, e, ne, h.imp (s.sqL ne) (s.sqT ne), hl, fun x m => (hx x m).stp s⟩
theorem Okv.eqd {K : PySem.W.Frag} {H : Hp} {b : Addr} : ∀ {n : Nat} {v : V}, Okv K H b n v → Eqd K H n v v
  | 0, _, h => ⟨h.1, rfl⟩
  | n + 1, _, .inl h => .inl ⟨h.1, rfl⟩
  | n + 1, _, .inr ⟨a, xs, e, _, h, hl, hx⟩ => .inr ⟨a, a, xs, xs, e, e, h.imp (fun q => ⟨q, q⟩) (fun q => ⟨q, q⟩), rfl, hl, fun i u v hu hv => by
      rw [hu] at hv
      cases hv
      exact (hx u (List.mem_of_getElem? hu)).eqd⟩
theorem Okv.of_flat {K : PySem.W.Frag} {H : Hp} {b : Addr} {n : Nat} {v : V} (h : flatV v = true) (hz : ∀ z, v = .str z → StrK z) : Okv K H b n v := by
  cases n with
  | zero => exact ⟨h, hz⟩
  | succ n => exact .inl ⟨h, hz⟩
theorem Okv.non {K : PySem.W.Frag} {H : Hp} {b : Addr} {n : Nat} : Okv K H b n .non := .of_flat rfl (fun _ e => nomatch e)
theorem Okv.bl {K : PySem.W.Frag} {H : Hp} {b : Addr} {n : Nat} {k : Bool} : Okv K H b n (.bl k) := .of_flat rfl (fun _ e => nomatch e)
theorem Okv.int {K : PySem.W.Frag} {H : Hp} {b : Addr} {n : Nat} {i : Int} : Okv K H b n (.int i) := .of_flat rfl (fun _ e => nomatch e)
theorem Okv.str {K : PySem.W.Frag} {H : Hp} {b : Addr} {n : Nat} {z : Str} (h : StrK z) : Okv K H b n (.str z) := .of_flat rfl (fun _ e => by cases e; exact h)
/-- what kind it is -/
def isS : V → Bool
  | .str _ => true
  | _ => false
def isB : V → Bool
  | .bl _ => true
  | _ => false
def isI : V → Bool
  | .int _ => true
  | .bl _ => true
  | _ => false
theorem Okv.ty {K : PySem.W.Frag} {H : Hp} {b : Addr} {n : Nat} {v : V} (h : Okv K H b n v) : ∃ t, TyX K H v t ∧ PySem.W.kitOne K t (.type "str") = some (isS v) ∧ PySem.W.kitOne K t (.type "bool") = some (isB v) ∧ PySem.W.kitOne K t (.type "int") = some (isI v) := by
  have fl : flatV v = true → ∃ t, TyX K H v t ∧ PySem.W.kitOne K t (.type "str") = some (isS v) ∧ PySem.W.kitOne K t (.type "bool") = some (isB v) ∧ PySem.W.kitOne K t (.type "int") = some (isI v) := fun hf => by
    cases v with
    | non => exact ⟨_, .base .non, kit_ty (by decide +kernel), kit_ty (by decide +kernel), kit_ty (by decide +kernel)⟩
    | bl k => exact ⟨_, .base (.bl k), kit_ty (show kitB "bool" "str" = some false by decide +kernel), kit_ty (show kitB "bool" "bool" = some true by decide +kernel), kit_ty (show kitB "bool" "int" = some true by decide +kernel)⟩
    | int i => exact ⟨_, .base (.int i), kit_ty (show kitB "int" "str" = some false by decide +kernel), kit_ty (show kitB "int" "bool" = some false by decide +kernel), kit_ty (show kitB "int" "int" = some true by decide +kernel)⟩
    | str z => exact ⟨_, .base (.str z), kit_ty (show kitB "str" "str" = some true by decide +kernel), kit_ty (show kitB "str" "bool" = some false by decide +kernel), kit_ty (show kitB "str" "int" = some false by decide +kernel)⟩
    | _ => cases hf
  cases n with
  | zero => exact fl h.1
  | succ n =>
    rcases h with h | ⟨a, xs, rfl, _, h | h, _⟩
    · exact fl h.1
    · exact ⟨_, tyx_l h, kit_ty (show kitB "list" "str" = some false by decide +kernel), kit_ty (show kitB "list" "bool" = some false by decide +kernel), kit_ty (show kitB "list" "int" = some false by decide +kernel)⟩
    · exact ⟨_, tyx_t h, kit_ty (show kitB "tuple" "str" = some false by decide +kernel), kit_ty (show kitB "tuple" "bool" = some false by decide +kernel), kit_ty (show kitB "tuple" "int" = some false by decide +kernel)⟩
theorem Okv.strK {K : PySem.W.Frag} {H : Hp} {b : Addr} {n : Nat} {z : Str} (h : Okv K H b n (.str z)) : StrK z := by
  cases n with
  | zero => exact h.2 z rfl
  | succ n =>
    rcases h with h | ⟨a, xs, e, _⟩
    · exact h.2 z rfl
    · cases e
theorem Okv.short {K : PySem.W.Frag} {H : Hp} {b : Addr} {n : Nat} {z : Str} (h : Okv K H b n (.str z)) : z.cps.size ≤ 100000 := h.strK.1
theorem isS_of {v : V} (h : isS v = true) : ∃ z, v = .str z := by
  cases v with
  | str z => exact ⟨z, rfl⟩
  | _ => cases h
/-! ### names and numbers, as plain functions -/
def inL (c : Nat) : Bool := decide (97 ≤ c) && decide (c ≤ 122)
def nmV : V → Bool
  | .str z => decide (1 ≤ z.cps.size) && decide (z.cps.size ≤ 6) && z.cps.toList.all inL
  | _ => false
def numV (v : V) (lo hi : Int) : Bool := match v with
  | .int i => decide (lo ≤ i) && decide (i ≤ hi)
  | _ => false
def regs : List V := [.str "r0", .str "r1", .str "r2"]
def regV (v : V) : Bool := isS v && inV v regs
theorem lt_sign (c d : Nat) : (([c] : List Nat) < [d]) ↔ c < d := by
  constructor
  · intro h
    cases h with
    | rel h => exact h
    | cons h => cases h
  · intro h
    exact .rel h
theorem le_sign (c d : Nat) : (!decide (([c] : List Nat) < [d])) = decide (d ≤ c) := by
  rw [Bool.eq_iff_iff]
  simp [lt_sign]
theorem cps_a : ("a" : Str).cps.toList = [97] := by decide +kernel
theorem cps_z : ("z" : Str).cps.toList = [122] := by decide +kernel
theorem cps_abc : ("abcdefghijklmnopqrstuvwxyz" : Str).cps.toList = List.range' 97 26 := by decide +kernel
theorem in_abc (c : Nat) : decide (c ∈ ("abcdefghijklmnopqrstuvwxyz" : Str).cps.toList) = inL c := by
  rw [cps_abc, Bool.eq_iff_iff]
  simp [inL, List.mem_range'_1]
  omega
/-- what holds of each answer, told ahead: any extension, then the answer -/
theorem take_snoc {α β : Type} (f : α → β) {l : List α} {i : Nat} {x : α} (h : l[i]? = some x) : (l.take (i + 1)).map f = (l.take i).map f ++ [f x] := by
  rw [List.take_add_one, h, List.map_append]
  rfl

/-! ### texts of drawn signs -/
theorem joinL_ones : ∀ cs : List Nat, TL.joinL [] (cs.map fun c => [c]) = cs
  | [] => rfl
  | [_] => rfl
  | c :: d :: r => by
    show [c] ++ ([] ++ TL.joinL [] ((d :: r).map fun c => [c])) = c :: d :: r
    rw [joinL_ones (d :: r)]
    rfl
theorem join_ones (cs : List Nat) : Txt.join ("" : Str) (cs.map fun c => (⟨#[c]⟩ : Str)) = ⟨cs.toArray⟩ := by
  have e : ("" : Str) = SX.S [] := by decide +kernel
  have e2 : (cs.map fun c => (⟨#[c]⟩ : Str)) = (cs.map fun c => [c]).map SX.S := by
    rw [List.map_map]
    rfl
  rw [e, e2, SX.join_S, joinL_ones]
theorem len_ones : ∀ cs : List Nat, ((cs.map fun c => (⟨#[c]⟩ : Str)).map (·.length)).sum = cs.length
  | [] => rfl
  | c :: r => by
    rw [List.map_cons, List.map_cons, List.sum_cons, len_ones r, List.length_cons]
    show 1 + r.length = r.length + 1
    omega
theorem strK_of {cs : List Nat} (hl : cs.length ≤ 100000) (h : ∀ c ∈ cs, c < 1114112) : StrK (⟨cs.toArray⟩ : Str) := ⟨by simpa using hl, by simpa using h⟩
theorem Eqd.lists {K : PySem.W.Frag} {H : Hp} {a b : Addr} {xs : List V} {n : Nat} (h1 : SqL K H a xs) (h2 : SqL K H b xs) (hl : xs.length ≤ 100000) (hf : ∀ x ∈ xs, Eqd K H n x x) : Eqd K H (n + 1) (.ref a) (.ref b) :=
  .inr ⟨a, b, xs, xs, rfl, rfl, .inl ⟨h1, h2⟩, rfl, hl, fun i u v hu hv => by
    rw [hu] at hv
    cases hv
    exact hf u (List.mem_of_getElem? hu)⟩
theorem Eqd.tups {K : PySem.W.Frag} {H : Hp} {a b : Addr} {xs : List V} {n : Nat} (h1 : SqT K H a xs) (h2 : SqT K H b xs) (hl : xs.length ≤ 100000) (hf : ∀ x ∈ xs, Eqd K H n x x) : Eqd K H (n + 1) (.ref a) (.ref b) :=
  .inr ⟨a, b, xs, xs, rfl, rfl, .inr ⟨h1, h2⟩, rfl, hl, fun i u v hu hv => by
    rw [hu] at hv
    cases hv
    exact hf u (List.mem_of_getElem? hu)⟩
/-- a flat value is what it is in any heap -/
theorem Okv.lst0 {K : PySem.W.Frag} {H : Hp} {b a : Addr} {n : Nat} {xs : List V} (ne : a ≠ b) (h : SqL K H a xs) (hl : xs.length ≤ 100000) (hx : ∀ x ∈ xs, Okv K H b n x) : Okv K H b (n + 1) (.ref a) := .inr ⟨a, xs, rfl, ne, .inl h, hl, hx⟩
theorem Okv.tup0 {K : PySem.W.Frag} {H : Hp} {b a : Addr} {n : Nat} {xs : List V} (ne : a ≠ b) (h : SqT K H a xs) (hl : xs.length ≤ 100000) (hx : ∀ x ∈ xs, Okv K H b n x) : Okv K H b (n + 1) (.ref a) := .inr ⟨a, xs, rfl, ne, .inr h, hl, hx⟩
theorem mem1 {α : Type} {P : α → Prop} {x : α} (h : P x) : ∀ y ∈ [x], P y := fun y m => by
  rw [List.mem_singleton.mp m]
  exact h
theorem memc {α : Type} {P : α → Prop} {x : α} {l : List α} (h : P x) (t : ∀ y ∈ l, P y) : ∀ y ∈ x :: l, P y := fun y m => by
  rcases List.mem_cons.mp m with e | m
  · rw [e]
    exact h
  · exact t y m
theorem mem0 {α : Type} {P : α → Prop} : ∀ y ∈ ([] : List α), P y := fun _ m => nomatch m
theorem mema {α : Type} {P : α → Prop} {l r : List α} (h : ∀ y ∈ l, P y) (t : ∀ y ∈ r, P y) : ∀ y ∈ l ++ r, P y := fun y m => by
  rcases List.mem_append.mp m with m | m
  · exact h y m
  · exact t y m
/-- a written text -/
theorem Okv.lit {K : PySem.W.Frag} {H : Hp} {b : Addr} {n : Nat} {z : Str} (h : (decide (z.cps.size ≤ 100000) && z.cps.toList.all fun c => decide (c < 1114112)) = true) : Okv K H b n (.str z) := by
  rw [Bool.and_eq_true] at h
  refine .str ⟨of_decide_eq_true h.1, fun c m => ?_⟩
  have q := List.all_eq_true.mp h.2 c m
  exact of_decide_eq_true q
/-- such a text drawn from -/
theorem Thg.lit {K : PySem.W.Frag} {H : Hp} {b : Addr} {z : Str} (h : (decide (0 < z.cps.size) && decide (z.cps.size ≤ 100000) && z.cps.toList.all fun c => decide (c < 1114112)) = true) : Thg K H b (.str z) (fun v => ∃ c, v = .str ⟨#[c]⟩ ∧ c < 1114112) := by
  rw [Bool.and_eq_true, Bool.and_eq_true] at h
  exact .inl ⟨z, rfl, of_decide_eq_true h.1.1, of_decide_eq_true h.1.2, fun c m => ⟨c, rfl, of_decide_eq_true (List.all_eq_true.mp h.2 c m)⟩⟩
theorem Thg.lst {K : PySem.W.Frag} {H : Hp} {b a : Addr} {xs : List V} {Pt : V → Prop} (ne : a ≠ b) (h : SqL K H a xs) (h0 : 0 < xs.length) (hl : xs.length ≤ 100000) (hx : ∀ v ∈ xs, Pt v) : Thg K H b (.ref a) Pt := .inr ⟨a, xs, rfl, ne, h, h0, hl, hx⟩

/-! ### list of a text -/
theorem call_list_str1 {X : Cx} (hc : X.calm = true) : CallR X (.type "list") (fun xs H Q => ∃ z : Str, xs = [.str z] ∧ z.cps.size ≤ sizeLine ∧ ∀ p, H p = none → Q (.ref p) (upd H p (.lst (z.cps.toList.map fun c => V.str ⟨#[c]⟩)))) := by
  intro pins s σ H xs us Q I r h
  obtain ⟨z, rfl, hz, q⟩ := h
  obtain ⟨u, rfl, t, rfl⟩ := vals1 r
  refine PySem.call_list_str (I.ok.hd hc) z t (fun h' tk acc' c' hk hS' hacc => ?_) hz
  have rv : Vals (z.cps.toList.map fun c => V.str ⟨#[c]⟩) acc'.toList := vals_of_idx _ _ (by simpa using hacc.1) fun j u hj => by
    obtain ⟨c, t2, hc2, rfl⟩ := hacc.2 j u (by simpa using hj)
    exact ⟨.str ⟨#[c]⟩, by simp [hc2], ⟨t2, rfl⟩⟩
  exact ⟨.ref s.heap.objs.size, _, I.laid (t' := tk) hk (Nat.le_refl _) (show ObjOk X.prog X.w _ h' _ (.lst _) from ⟨by simpa using hz, acc'.toList, c', rv, by simpa using hS'⟩), rfl, q _ (I.hok.fresh (Nat.le_refl _))⟩

section
variable {P : Program} {w : World} {K : PySem.W.Frag} {mg : Str → Option Value} {base : Heap} {Z : Fs}
/-! ### is_name -/
def sp_is_name (K : PySem.W.Frag) : Sp := fun vs H Q _ => ∃ (v : V) (b : Addr) (n : Nat), vs = [v] ∧ Okv K H b n v ∧ ∀ H' : Hp, Same H H' → Q (.bl (nmV v)) H'
theorem ok_is_name (T : Txt K w mg Z) : FnOk P w K mg base CX0 1 Z.a_is_name Z.d_is_name ["value"] (sp_is_name K) := by
  refine T.F_is_name.ok sc_is_name (fun vs H Q E h => ?_) (fun cdv A outer s H vs Q E hr h => ?_)
  · obtain ⟨v, b, n, rfl, _⟩ := h
    rfl
  · obtain ⟨v, b, n, rfl, ok, k⟩ := h
    refine ⟨_, (pss_cons (ps_if (PW.pt (pw_or (pt_not (pt_val (pe_callB call_isi (by rfl) T.n_isinstance boot_isinstance (pa_cons (pv 0) (pa_cons (pe_bltn (v := .ty "str") (by rfl) T.n_str boot_str rfl) pa_nil))))) (pw_or1 (pt_not (pt_chain op_le op_le pe_int (pe_callB call_len (by rfl) T.n_len boot_len (pa_cons (pv 0) pa_nil)) (pe_glob (v := .int 6) (by rfl) (Classical.choose_spec T.g_MOST_LETTERS) ⟨_, rfl⟩)))))) (pss_one (ps_ret pe_bl)) pss_nil)
      (pss_one (ps_ret (pe_callB (cr_all rfl) (by rfl) T.n_all boot_all (pa_cons (pe_lc (own := [("letter", 1)]) (g := gName 1) (tt := tYes) rfl sc_is_name.nd (pi_str (pv 0)) (blkOk_by (N := N_is_name) (sc := defScope s_is_name) (by decide +kernel)) (fun _ _ _ _ _ => pg_name (i := 1) sc_is_name.nd rfl (Or.inl rfl)) (fun _ _ _ _ _ => pts_nil) (fun _ _ _ _ _ => (pe_chain op_le_str op_le_str pe_str (pv 1) pe_str))) pa_nil))))), ?_⟩
    obtain ⟨t, ty, kS, _, _⟩ := ok.ty
    refine ⟨v, rfl, v, .ty "str", t, _, _, rfl, .ty _, ty, kS, _, rfl, ?_⟩
    cases hv : isS v with
    | false =>
      refine iteT ?_
      have e : nmV v = false := by
        cases v with
        | str z => cases hv
        | _ => rfl
      show Q (.bl false) H
      rw [← e]
      exact k _ (Same.refl _)
    | true =>
      obtain ⟨z, rfl⟩ := isS_of hv
      refine iteF ?_
      refine ⟨.str z, rfl, .str z, z.cps.size, rfl, ⟨Nat.le_trans ok.short (by decide), rfl⟩, _, _, rfl, rfl, _, rfl, ite2 (fun h1 => ?_) (fun h1 => ?_)⟩
      · have h1' : 1 ≤ z.cps.size := by
          have q := of_decide_eq_true h1
          omega
        refine ⟨_, _, rfl, rfl, _, rfl, ?_⟩
        refine ite2 (fun h2 => ?_) (fun h2 => ?_)
        · have e : nmV (.str z) = false := by
            have q : ¬ z.cps.size ≤ 6 := by
              simp at h2
              omega
            simp [nmV, q]
          show Q (.bl false) H
          rw [← e]
          exact k _ (Same.refl _)
        · have q : z.cps.size ≤ 6 := by
            simp at h2
            omega
          refine ⟨.str z, rfl, z, rfl, fun D hD => ?_⟩
          refine lc_it (walk_str (z := z)) (fun i H' => Same H H' ∧ H' D = some (.lst (((z.cps.toList.take i).map inL).map V.bl))) ⟨Same.new hD, upd_same⟩ (fun _ _ _ _ => True.intro) ?_ ?_
          · rintro i v H2 H3 hi ⟨s2, e2⟩ ⟨rfl, c, hc, rfl⟩
            have hc' : z.cps.toList[i]? = some c := by simpa using hc
            refine ⟨rfl, .str ⟨#[c]⟩, rfl, "a", ⟨#[c]⟩, rfl, rfl, _, rfl, ite2 (fun h3 => ?_) (fun h3 => ?_)⟩
            · refine ⟨⟨#[c]⟩, "z", rfl, rfl, _, e2, ?_, Same.put s2 hD, ?_⟩
              · rw [List.length_map, List.length_map, List.length_take]
                exact Nat.lt_of_le_of_lt (Nat.min_le_left _ _) (Nat.lt_of_lt_of_le hi (Nat.le_trans ok.short (by decide)))
              · rw [upd_same, take_snoc inL hc', List.map_append]
                rw [cps_a, le_sign] at h3
                rw [cps_z]
                have e : (!decide (([122] : List Nat) < (⟨#[c]⟩ : Str).cps.toList)) = inL c := by
                  show (!decide (([122] : List Nat) < [c])) = inL c
                  rw [le_sign]
                  simp only [inL]
                  rw [h3]
                  rfl
                rw [e]
                rfl
            · refine ⟨_, e2, ?_, Same.put s2 hD, ?_⟩
              · rw [List.length_map, List.length_map, List.length_take]
                exact Nat.lt_of_le_of_lt (Nat.min_le_left _ _) (Nat.lt_of_lt_of_le hi (Nat.le_trans ok.short (by decide)))
              · rw [upd_same, take_snoc inL hc', List.map_append]
                rw [cps_a, le_sign] at h3
                have e : false = inL c := by
                  have h4 : decide (97 ≤ c) = false := by simpa using h3
                  simp only [inL]
                  rw [h4]
                  rfl
                rw [← e]
                rfl
          · rintro H' ⟨s2, e2⟩
            refine ⟨D, _, rfl, SqL.of e2, ?_⟩
            have e : ((z.cps.toList.take z.cps.size).map inL).all id = nmV (.str z) := by
              rw [List.take_of_length_le (by simp)]
              simp [nmV, h1', q, List.all_map]
            rw [e]
            exact k _ s2
      · refine ⟨_, rfl, iteT ?_⟩
        have e : nmV (.str z) = false := by
          have q : ¬ 1 ≤ z.cps.size := fun q => h1 (decide_eq_true (by omega))
          simp [nmV, q]
        show Q (.bl false) H
        rw [← e]
        exact k _ (Same.refl _)
end

section
variable {P : Program} {w : World} {K : PySem.W.Frag} {mg : Str → Option Value} {base : Heap} {Z : Fs}
def sp_is_number (K : PySem.W.Frag) : Sp := fun vs H Q _ => ∃ (v : V) (lo hi : Int) (b : Addr) (n : Nat), vs = [v, .int lo, .int hi] ∧ Okv K H b n v ∧ ∀ H' : Hp, Same H H' → Q (.bl (numV v lo hi)) H'
theorem ok_is_number (T : Txt K w mg Z) : FnOk P w K mg base CX0 1 Z.a_is_number Z.d_is_number ["value", "least", "most"] (sp_is_number K) := by
  refine T.F_is_number.ok sc_is_number (fun vs H Q E h => ?_) (fun cdv A outer s H vs Q E hr h => ?_)
  · obtain ⟨v, lo, hi, b, n, rfl, _⟩ := h
    rfl
  · obtain ⟨v, lo, hi, b, n, rfl, ok, k⟩ := h
    refine ⟨_, (pss_cons (ps_if (PW.pt (pw_or (pt_val (pe_callB call_isi (by rfl) T.n_isinstance boot_isinstance (pa_cons (pv 0) (pa_cons (pe_bltn (v := .ty "bool") (by rfl) T.n_bool boot_bool rfl) pa_nil)))) (pw_or1 (pt_not (pt_val (pe_callB call_isi (by rfl) T.n_isinstance boot_isinstance (pa_cons (pv 0) (pa_cons (pe_bltn (v := .ty "int") (by rfl) T.n_int boot_int rfl) pa_nil)))))))) (pss_one (ps_ret pe_bl)) pss_nil)
      (pss_one (ps_ret (pe_chain op_le op_le (pv 1) (pv 0) (pv 2))))), ?_⟩
    obtain ⟨t, ty, _, kB, kI⟩ := ok.ty
    refine ⟨v, rfl, v, .ty "bool", t, _, _, rfl, .ty _, ty, kB, _, rfl, ?_⟩
    have no : (∀ i, v ≠ .int i) → Q (.bl false) H := fun hn => by
      have e : numV v lo hi = false := by
        cases v with
        | int i => exact absurd rfl (hn i)
        | _ => rfl
      rw [← e]
      exact k _ (Same.refl _)
    cases hb : isB v with
    | true =>
      refine iteT (iteT (no fun i e => ?_))
      rw [e] at hb
      cases hb
    | false =>
      refine iteF ?_
      refine ⟨v, rfl, v, .ty "int", t, _, _, rfl, .ty _, ty, kI, _, rfl, ?_⟩
      cases hi' : isI v with
      | false =>
        refine iteT (no fun i e => ?_)
        rw [e] at hi'
        cases hi'
      | true =>
        refine iteF ?_
        obtain ⟨i, rfl⟩ : ∃ i, v = .int i := by
          cases v with
          | int i => exact ⟨i, rfl⟩
          | bl _ => cases hb
          | _ => cases hi'
        refine ⟨.int lo, rfl, .int i, rfl, _, _, rfl, rfl, _, rfl, ite2 (fun h1 => ?_) (fun h1 => ?_)⟩
        · refine ⟨.int hi, rfl, _, _, rfl, rfl, ?_⟩
          have e : numV (.int i) lo hi = decide (i ≤ hi) := by simp [numV, of_decide_eq_true h1]
          show Q (.bl (decide (i ≤ hi))) H
          rw [← e]
          exact k _ (Same.refl _)
        · have e : numV (.int i) lo hi = false := by
            have q : ¬ lo ≤ i := fun q => h1 (decide_eq_true q)
            simp [numV, q]
          show Q (.bl false) H
          rw [← e]
          exact k _ (Same.refl _)
end

section
variable {P : Program} {w : World} {K : PySem.W.Frag} {mg : Str → Option Value} {base : Heap} {Z : Fs}
def sp_is_register (K : PySem.W.Frag) : Sp := fun vs H Q _ => ∃ (v : V) (b : Addr) (n : Nat), vs = [v] ∧ Okv K H b n v ∧ ∀ H' : Hp, Same H H' → Q (.bl (regV v)) H'
theorem ok_is_register (T : Txt K w mg Z) : FnOk P w K mg base CX0 1 Z.a_is_register Z.d_is_register ["value"] (sp_is_register K) := by
  refine T.F_is_register.ok sc_is_register (fun vs H Q E h => ?_) (fun cdv A outer s H vs Q E hr h => ?_)
  · obtain ⟨v, b, n, rfl, _⟩ := h
    rfl
  · obtain ⟨v, b, n, rfl, ok, k⟩ := h
    refine ⟨_, (pss_one (ps_ret (pe_and (pe_callB call_isi (by rfl) T.n_isinstance boot_isinstance (pa_cons (pv 0) (pa_cons (pe_bltn (v := .ty "str") (by rfl) T.n_str boot_str rfl) pa_nil))) (pe_one (pe_cmpR (op_in_seq : OpR _ _ (rIn K false)) (pv 0) (pe_glob (v := .ref Z.c_REGISTERS) (by rfl) T.g_REGISTERS rfl) (by rfl)))))), ?_⟩
    obtain ⟨t, ty, kS, _, _⟩ := ok.ty
    refine ⟨v, rfl, v, .ty "str", t, _, _, rfl, .ty _, ty, kS, _, rfl, ?_⟩
    cases hv : isS v with
    | false =>
      refine iteF ?_
      have e : regV v = false := by simp [regV, hv]
      rw [← e]
      exact k _ (Same.refl _)
    | true =>
      refine iteT ?_
      obtain ⟨z, rfl⟩ := isS_of hv
      refine ⟨.str z, rfl, _, regs, rfl, .inr (T.v_REGISTERS H), rfl, rfl, ?_⟩
      have e : regV (.str z) = inV (.str z) regs := by simp [regV, isS]
      show Q (.bl (inV (.str z) regs)) H
      rw [← e]
      exact k _ (Same.refl _)
end

theorem eqv_nil : PyData.eqv (.list []) (.list []) = true := by decide +kernel
theorem eqv_cons (d : PyData) (ds : List PyData) : PyData.eqv (.list (d :: ds)) (.list []) = false := by rfl
theorem dp_strs {K : PySem.W.Frag} {H : Hp} : ∀ l : List Nat, DpAll K H (l.map fun c => V.str ⟨#[c]⟩) (l.map fun c => PyData.str ⟨#[c]⟩)
  | [] => .nil
  | c :: l => .cons (.str _) (dp_strs l)
theorem lay_strs : ∀ l : List Nat, (∀ c ∈ l, c < 1114112) → PyData.canLayAll0 (l.map fun c => PyData.str ⟨#[c]⟩) = true
  | [], _ => by simp [PyData.canLayAll0]
  | c :: l, h => by
    have h1 := h c (List.mem_cons_self ..)
    have h2 := lay_strs l fun d m => h d (List.mem_cons_of_mem _ m)
    simp [PyData.canLayAll0, PyData.canLay0, PyData.strOk, h1, h2]
theorem dep_strs : ∀ l : List Nat, PyData.depthAll (l.map fun c => PyData.str ⟨#[c]⟩) ≤ 1
  | [] => by simp [PyData.depthAll]
  | c :: l => by
    have h2 := dep_strs l
    simp [PyData.depthAll, PyData.depth]
    omega
theorem shaped_strs {l : List Nat} (h : ∀ c ∈ l, c < 1114112) : SeqAt.shaped (.list (l.map fun c => PyData.str ⟨#[c]⟩)) = true := by
  have h1 := lay_strs l h
  have h2 := dep_strs l
  simp [SeqAt.shaped, PyData.canLay0, PyData.depth, h1]
  omega
section
variable {P : Program} {w : World} {K : PySem.W.Frag} {mg : Str → Option Value} {base : Heap} {Z : Fs}
def sp_law_is_title (K : PySem.W.Frag) : Sp := fun vs H Q _ => ∃ (v : V) (b : Addr) (n : Nat), vs = [v] ∧ Okv K H b n v ∧ ∀ H' : Hp, Same H H' → Q (.bl (nmV v)) H'
theorem ok_law_is_title (T : Txt K w mg Z) : FnOk P w K mg base CX0 1 Z.a_law_is_title Z.d_law_is_title ["_law_thing"] (sp_law_is_title K) := by
  refine T.F_law_is_title.ok sc_law_is_title (fun vs H Q E h => ?_) (fun cdv A outer s H vs Q E hr h => ?_)
  · obtain ⟨v, b, n, rfl, _⟩ := h
    rfl
  · obtain ⟨v, b, n, rfl, ok, k⟩ := h
    refine ⟨_, (pss_cons (ps_if (PW.pt (pw_or (pt_not (pt_val (pe_callB call_isi (by rfl) T.n_isinstance boot_isinstance (pa_cons (pv 0) (pa_cons (pe_bltn (v := .ty "str") (by rfl) T.n_str boot_str rfl) pa_nil))))) (pw_or (pt_cmpR op_lt (pe_callB call_len (by rfl) T.n_len boot_len (pa_cons (pv 0) pa_nil)) pe_int (nomark _)) (pw_or1 (pt_cmpR op_gt (pe_callB call_len (by rfl) T.n_len boot_len (pa_cons (pv 0) pa_nil)) pe_int (nomark _)))))) (pss_one (ps_ret pe_bl)) pss_nil)
      (pss_one (ps_ret (pe_cmpR (op_eqD hr.units) (pe_lc (own := [("_law_sign", 1)]) (g := gName 1) rfl sc_law_is_title.nd (pi_str (pv 0)) (blkOk_by (N := N_law_is_title) (sc := defScope s_law_is_title) (by decide +kernel)) (fun _ _ _ _ _ => pg_name (i := 1) sc_law_is_title.nd rfl (Or.inl rfl)) (fun _ _ _ _ _ => pts_one (pt_cmpR op_notIn_sign (pv 1) pe_str rfl)) (fun _ _ _ _ _ => (pv 1))) (pe_lst pa_nil) (nomark _))))), ?_⟩
    obtain ⟨t, ty, kS, _, _⟩ := ok.ty
    refine ⟨v, rfl, v, .ty "str", t, _, _, rfl, .ty _, ty, kS, _, rfl, ?_⟩
    cases hv : isS v with
    | false =>
      refine iteT (iteT ?_)
      have e : nmV v = false := by
        cases v with
        | str z => cases hv
        | _ => rfl
      rw [← e]
      exact k _ (Same.refl _)
    | true =>
      obtain ⟨z, rfl⟩ := isS_of hv
      refine iteF ?_
      refine ⟨.str z, rfl, .str z, z.cps.size, rfl, ⟨Nat.le_trans ok.short (by decide), rfl⟩, _, _, rfl, rfl, _, rfl, ite2 (fun h1 => ?_) (fun h1 => ?_)⟩
      · have e : nmV (.str z) = false := by
          have q : ¬ 1 ≤ z.cps.size := fun q => by
            have q2 := of_decide_eq_true h1
            omega
          simp [nmV, q]
        refine iteT ?_
        rw [← e]
        exact k _ (Same.refl _)
      · have h1' : 1 ≤ z.cps.size := by
          have q : ¬ ((z.cps.size : Int) < 1) := fun q => h1 (decide_eq_true q)
          omega
        refine ⟨.str z, rfl, .str z, z.cps.size, rfl, ⟨Nat.le_trans ok.short (by decide), rfl⟩, _, _, rfl, rfl, _, rfl, ite2 (fun h2 => ?_) (fun h2 => ?_)⟩
        · have e : nmV (.str z) = false := by
            have q : ¬ z.cps.size ≤ 6 := fun q => by
              have q2 := of_decide_eq_true h2
              omega
            simp [nmV, q]
          show Q (.bl false) H
          rw [← e]
          exact k _ (Same.refl _)
        · have h2' : z.cps.size ≤ 6 := by
            have q : ¬ ((6 : Int) < z.cps.size) := fun q => h2 (decide_eq_true q)
            omega
          refine ⟨.str z, rfl, z, rfl, fun D hD => ?_⟩
          refine lc_it (walk_str (z := z)) (fun i H' => Same H H' ∧ H' D = some (.lst (((z.cps.toList.take i).filter fun c => !inL c).map fun c => V.str ⟨#[c]⟩))) ⟨Same.new hD, upd_same⟩ (fun _ _ _ _ => True.intro) ?_ ?_
          · rintro i v H2 H3 hi ⟨s2, e2⟩ ⟨rfl, c, hc, rfl⟩
            have hc' : z.cps.toList[i]? = some c := by simpa using hc
            refine ⟨rfl, .str ⟨#[c]⟩, rfl, c, _, rfl, rfl, _, rfl, ?_⟩
            rw [in_abc]
            cases hq : inL c with
            | false =>
              refine iteT ⟨_, rfl, _, e2, ?_, Same.put s2 hD, ?_⟩
              · rw [List.length_map]
                exact Nat.lt_of_le_of_lt (List.length_filter_le _ _) (Nat.lt_of_le_of_lt (List.length_take_le _ _) (Nat.lt_of_lt_of_le hi (Nat.le_trans ok.short (by decide))))
              · rw [upd_same, List.take_add_one, hc', List.filter_append, List.map_append]
                simp [hq]
            | true =>
              refine iteF ⟨s2, ?_⟩
              rw [e2, List.take_add_one, hc', List.filter_append, List.map_append]
              simp [hq]
          · rintro H' ⟨s2, e2⟩
            refine ⟨Nat.zero_le _, fun p hp => ?_⟩
            have nDp : D ≠ p := ne_of_none e2 hp
            refine ⟨.list _, .list [], .lst (SqL.of (by rw [upd_ne nDp]; exact e2)) (dp_strs _), .lst (SqL.of upd_same) .nil, shaped_strs (fun c m => ok.strK.2 c (List.mem_of_mem_take (List.mem_filter.mp m).1)), rfl, ?_⟩
            have e : PyData.eqv (.list (((z.cps.toList.take z.cps.size).filter fun c => !inL c).map fun c => PyData.str ⟨#[c]⟩)) (.list []) = nmV (.str z) := by
              rw [List.take_of_length_le (by simp)]
              have hn : nmV (.str z) = z.cps.toList.all inL := by simp [nmV, h1', h2']
              rw [hn]
              cases hf : (z.cps.toList.filter fun c => !inL c) with
              | nil =>
                rw [List.filter_eq_nil_iff] at hf
                have ha : z.cps.toList.all inL = true := by
                  rw [List.all_eq_true]
                  intro c hc
                  have q := hf c hc
                  simpa using q
                rw [ha]
                exact eqv_nil
              | cons c r =>
                have hm : c ∈ z.cps.toList.filter fun c => !inL c := by
                  rw [hf]
                  exact List.mem_cons_self ..
                rw [List.mem_filter] at hm
                have ha : z.cps.toList.all inL = false := by
                  rw [List.all_eq_false]
                  exact ⟨c, hm.1, by simpa using hm.2⟩
                rw [ha]
                exact eqv_cons _ _
            rw [e]
            exact k _ (s2.trans (Same.new hp))
end

section
variable {P : Program} {w : World} {K : PySem.W.Frag} {mg : Str → Option Value} {base : Heap} {Z : Fs}
def sp_law_within (K : PySem.W.Frag) : Sp := fun vs H Q _ => ∃ (v : V) (lo hi : Int) (b : Addr) (n : Nat), vs = [v, .int lo, .int hi] ∧ Okv K H b n v ∧ ∀ H' : Hp, Same H H' → Q (.bl (numV v lo hi)) H'
theorem ok_law_within (T : Txt K w mg Z) : FnOk P w K mg base CX0 1 Z.a_law_within Z.d_law_within ["_law_thing", "_law_low_y", "_law_high_y"] (sp_law_within K) := by
  refine T.F_law_within.ok sc_law_within (fun vs H Q E h => ?_) (fun cdv A outer s H vs Q E hr h => ?_)
  · obtain ⟨v, lo, hi, b, n, rfl, _⟩ := h
    rfl
  · obtain ⟨v, lo, hi, b, n, rfl, ok, k⟩ := h
    refine ⟨_, (pss_one (ps_ret (pe_and (pe_callB call_isi (by rfl) T.n_isinstance boot_isinstance (pa_cons (pv 0) (pa_cons (pe_bltn (v := .ty "int") (by rfl) T.n_int boot_int rfl) pa_nil))) (pe_and (pe_not (pe_callB call_isi (by rfl) T.n_isinstance boot_isinstance (pa_cons (pv 0) (pa_cons (pe_bltn (v := .ty "bool") (by rfl) T.n_bool boot_bool rfl) pa_nil)))) (pe_and (pe_cmpR op_le (pv 1) (pv 0) (nomark _)) (pe_one (pe_cmpR op_le (pv 0) (pv 2) (nomark _)))))))), ?_⟩
    obtain ⟨t, ty, _, kB, kI⟩ := ok.ty
    have no : (∀ i, v ≠ .int i) → Q (.bl false) H := fun hn => by
      have e : numV v lo hi = false := by
        cases v with
        | int i => exact absurd rfl (hn i)
        | _ => rfl
      rw [← e]
      exact k _ (Same.refl _)
    refine ⟨v, rfl, v, .ty "int", t, _, _, rfl, .ty _, ty, kI, _, rfl, ?_⟩
    cases hi' : isI v with
    | false =>
      refine iteF (no fun i e => ?_)
      rw [e] at hi'
      cases hi'
    | true =>
      refine iteT ?_
      refine ⟨v, rfl, v, .ty "bool", t, _, _, rfl, .ty _, ty, kB, _, rfl, _, rfl, ?_⟩
      cases hb : isB v with
      | true =>
        refine iteF (no fun i e => ?_)
        rw [e] at hb
        cases hb
      | false =>
        refine iteT ?_
        obtain ⟨i, rfl⟩ : ∃ i, v = .int i := by
          cases v with
          | int i => exact ⟨i, rfl⟩
          | bl _ => cases hb
          | _ => cases hi'
        refine ⟨.int lo, rfl, .int i, rfl, _, _, rfl, rfl, _, rfl, ite2 (fun h1 => ?_) (fun h1 => ?_)⟩
        · refine ⟨.int i, rfl, .int hi, rfl, _, _, rfl, rfl, ?_⟩
          have e : numV (.int i) lo hi = decide (i ≤ hi) := by simp [numV, of_decide_eq_true h1]
          show Q (.bl (decide (i ≤ hi))) H
          rw [← e]
          exact k _ (Same.refl _)
        · have e : numV (.int i) lo hi = false := by
            have q : ¬ lo ≤ i := fun q => h1 (decide_eq_true q)
            simp [numV, q]
          rw [← e]
          exact k _ (Same.refl _)
end

section
variable {P : Program} {w : World} {K : PySem.W.Frag} {mg : Str → Option Value} {base : Heap} {Z : Fs}
def sp_law_odd (K : PySem.W.Frag) : Sp := fun vs H Q _ => ∃ (b l m : Addr) (ms : List V), vs = [.ref b, .ref m] ∧ Bag H b l ∧ H m = some (.lst ms) ∧ m ≠ b ∧ (∀ x ∈ ms, Okv K H b 3 x) ∧ ms.length ≤ 1000 ∧ ∀ (H' : Hp) (v : V), Stp b H H' → Bag H' b l → Okv K H' b 3 v → Q v H'
theorem ok_law_odd (T : Txt K w mg Z) : FnOk P w K mg base CX0 3 Z.a_law_odd Z.d_law_odd ["_law_bag_here", "_law_more"] (sp_law_odd K) := by
  have G_law_of : FnOk P w K mg base CX0 2 Z.a_law_of Z.d_law_of ["_law_bag_here", "_law_things"] (sp_law_of K) := ok_law_of T
  refine T.F_law_odd.ok sc_law_odd (fun vs H Q E h => ?_) (fun cdv A outer s H vs Q E hr h => ?_)
  · obtain ⟨b, l, m, ms, rfl, _⟩ := h
    rfl
  · obtain ⟨b, l, m, ms, rfl, B, hm, nm, hms, lms, k⟩ := h
    refine ⟨_, (pss_one (ps_ret (pe_call G_law_of (hr.mono (by omega)) (by rfl) T.m_law_of T.F_law_of.kp T.b_law_of .nil pass0 (pa_cons (pv 0) (pa_cons (pe_op op_cat (pe_lst (pa_cons pe_non (pa_cons pe_bl (pa_cons pe_bl (pa_cons pe_str (pa_cons pe_str (pa_cons (pe_un un_neg pe_int) (pa_cons pe_int (pa_cons (pe_tup pa_nil) (pa_cons (pe_lst pa_nil) (pa_cons (pe_tup (pa_cons pe_int pa_nil)) (pa_cons (pe_lst (pa_cons pe_str pa_nil)) (pa_cons pe_str (pa_cons (pe_tup (pa_cons pe_str (pa_cons pe_str pa_nil))) (pa_cons (pe_lst (pa_cons pe_non pa_nil)) pa_nil))))))))))))))) (pv 1)) pa_nil))))), ?_⟩
    refine ⟨.ref b, rfl, 1, rfl, Nat.zero_le _, fun p1 h1 => ?_⟩
    have n1 := B.ne h1
    have s1 : Same H (upd H p1 (.tup [])) := Same.new h1
    have e1 : (upd H p1 (.tup [])) p1 = some (.tup []) := upd_same
    generalize upd H p1 (.tup []) = H1 at s1 e1 ⊢
    refine ⟨Nat.zero_le _, fun p2 h2 => ?_⟩
    have n2 := (B.same s1).ne h2
    have s2 : Same H1 (upd H1 p2 (.lst [])) := Same.new h2
    have e2 : (upd H1 p2 (.lst [])) p2 = some (.lst []) := upd_same
    generalize upd H1 p2 (.lst []) = H2 at s2 e2 ⊢
    refine ⟨(by show 1 ≤ sizeLine; decide), fun p3 h3 => ?_⟩
    have n3 := (B.same (s1.trans s2)).ne h3
    have s3 : Same H2 (upd H2 p3 (.tup [V.int 1])) := Same.new h3
    have e3 : (upd H2 p3 (.tup [V.int 1])) p3 = some (.tup [V.int 1]) := upd_same
    generalize upd H2 p3 (.tup [V.int 1]) = H3 at s3 e3 ⊢
    refine ⟨(by show 1 ≤ sizeLine; decide), fun p4 h4 => ?_⟩
    have n4 := (B.same ((s1.trans s2).trans s3)).ne h4
    have s4 : Same H3 (upd H3 p4 (.lst [V.str "a"])) := Same.new h4
    have e4 : (upd H3 p4 (.lst [V.str "a"])) p4 = some (.lst [V.str "a"]) := upd_same
    generalize upd H3 p4 (.lst [V.str "a"]) = H4 at s4 e4 ⊢
    refine ⟨(by show 2 ≤ sizeLine; decide), fun p5 h5 => ?_⟩
    have n5 := (B.same (((s1.trans s2).trans s3).trans s4)).ne h5
    have s5 : Same H4 (upd H4 p5 (.tup [V.str "a", V.str "b"])) := Same.new h5
    have e5 : (upd H4 p5 (.tup [V.str "a", V.str "b"])) p5 = some (.tup [V.str "a", V.str "b"]) := upd_same
    generalize upd H4 p5 (.tup [V.str "a", V.str "b"]) = H5 at s5 e5 ⊢
    refine ⟨(by show 1 ≤ sizeLine; decide), fun p6 h6 => ?_⟩
    have n6 := (B.same ((((s1.trans s2).trans s3).trans s4).trans s5)).ne h6
    have s6 : Same H5 (upd H5 p6 (.lst [V.non])) := Same.new h6
    have e6 : (upd H5 p6 (.lst [V.non])) p6 = some (.lst [V.non]) := upd_same
    generalize upd H5 p6 (.lst [V.non]) = H6 at s6 e6 ⊢
    refine ⟨(by show 14 ≤ sizeLine; decide), fun p7 h7 => ?_⟩
    have s7 : Same H6 (upd H6 p7 (.lst [.non, .bl true, .bl false, .str "", .str "A", .int (-1), .int 999999999, .ref p1, .ref p2, .ref p3, .ref p4, .str "a b", .ref p5, .ref p6])) := Same.new h7
    have e7 : (upd H6 p7 (.lst [.non, .bl true, .bl false, .str "", .str "A", .int (-1), .int 999999999, .ref p1, .ref p2, .ref p3, .ref p4, .str "a b", .ref p5, .ref p6])) p7 = some (.lst [.non, .bl true, .bl false, .str "", .str "A", .int (-1), .int 999999999, .ref p1, .ref p2, .ref p3, .ref p4, .str "a b", .ref p5, .ref p6]) := upd_same
    generalize upd H6 p7 (.lst [.non, .bl true, .bl false, .str "", .str "A", .int (-1), .int 999999999, .ref p1, .ref p2, .ref p3, .ref p4, .str "a b", .ref p5, .ref p6]) = H7 at s7 e7 ⊢
    have t7 : Same H H7 := (((((s1.trans s2).trans s3).trans s4).trans s5).trans s6).trans s7
    refine ⟨.ref m, rfl, p7, m, _, ms, rfl, rfl, e7, t7 _ _ hm, (by show 14 + ms.length ≤ sizeLine; exact Nat.le_trans (Nat.add_le_add_left lms 14) (by decide)), fun p8 h8 => ?_⟩
    have n8 := (B.same t7).ne h8
    refine ⟨b, l, .ref p8, fun v => Okv K (upd H7 p8 (.lst ([.non, .bl true, .bl false, .str "", .str "A", .int (-1), .int 999999999, .ref p1, .ref p2, .ref p3, .ref p4, .str "a b", .ref p5, .ref p6] ++ ms))) b 3 v, rfl, (B.same t7).new h8, .lst n8 (SqL.of upd_same) (by simp) (by simp; omega) ?_, fun H' v s' B' ov => k _ _ ((Same.stp (t7.trans (Same.new h8))).trans s') B' (ov.stp s')⟩
    have s8 : Same H7 (upd H7 p8 (.lst ([.non, .bl true, .bl false, .str "", .str "A", .int (-1), .int 999999999, .ref p1, .ref p2, .ref p3, .ref p4, .str "a b", .ref p5, .ref p6] ++ ms))) := Same.new h8
    have u6 : Same H6 _ := s7.trans s8
    have u5 : Same H5 _ := s6.trans u6
    have u4 : Same H4 _ := s5.trans u5
    have u3 : Same H3 _ := s4.trans u4
    have u2 : Same H2 _ := s3.trans u3
    have u1 : Same H1 _ := s2.trans u2
    refine mema ?_ fun x hx => (hms x hx).stp (Same.stp (t7.trans s8))
    refine memc .non (memc .bl (memc .bl (memc (.lit (by decide +kernel)) (memc (.lit (by decide +kernel)) (memc .int (memc .int (memc ?_ (memc ?_ (memc ?_ (memc ?_ (memc (.lit (by decide +kernel)) (memc ?_ (mem1 ?_)))))))))))))
    · exact .tup0 n1 (SqT.of (u1 _ _ e1)) (by decide) mem0
    · exact .lst0 n2 (SqL.of (u2 _ _ e2)) (by decide) mem0
    · exact .tup0 n3 (SqT.of (u3 _ _ e3)) (by decide) (mem1 .int)
    · exact .lst0 n4 (SqL.of (u4 _ _ e4)) (by decide) (mem1 (.lit (by decide +kernel)))
    · exact .tup0 n5 (SqT.of (u5 _ _ e5)) (by decide) (memc (.lit (by decide +kernel)) (mem1 (.lit (by decide +kernel))))
    · exact .lst0 n6 (SqL.of (u6 _ _ e6)) (by decide) (mem1 .non)
end

/-! ### names and rows, as data -/
def Nm (z : Str) : Prop := 1 ≤ z.cps.size ∧ z.cps.size ≤ 6 ∧ z.cps.toList.all inL = true
theorem Nm.strK {z : Str} (h : Nm z) : StrK z := ⟨by have := h.2.1; omega, fun c m => by
  have q := List.all_eq_true.mp h.2.2 c m
  simp only [inL, Bool.and_eq_true, decide_eq_true_eq] at q
  omega⟩
/-- a code row; ts the names it may have -/
inductive CRow (ts : List Str) : List V → Prop where
  | put {r : V} {n : Int} (hr : r ∈ regs) (h0 : 0 ≤ n) (h1 : n ≤ 65535) : CRow ts [.str "put", r, .int n]
  | name {r : V} {t : Str} (hr : r ∈ regs) (ht : t ∈ ts) : CRow ts [.str "name", r, .str t]
  | ifzero {r : V} {t : Str} (hr : r ∈ regs) (ht : t ∈ ts) : CRow ts [.str "ifzero", r, .str t]
  | add {r s : V} (hr : r ∈ regs) (hs : s ∈ regs) : CRow ts [.str "add", r, s]
  | take {r s : V} (hr : r ∈ regs) (hs : s ∈ regs) : CRow ts [.str "take", r, s]
  | load {r s : V} {d : Int} (hr : r ∈ regs) (hs : s ∈ regs) (h0 : 0 ≤ d) (h1 : d ≤ 15) : CRow ts [.str "load", r, s, .int d]
  | store {r s : V} {d : Int} (hr : r ∈ regs) (hs : s ∈ regs) (h0 : 0 ≤ d) (h1 : d ≤ 15) : CRow ts [.str "store", r, s, .int d]
  | jump {t : Str} (ht : t ∈ ts) : CRow ts [.str "jump", .str t]
  | call {t : Str} (ht : t ∈ ts) : CRow ts [.str "call", .str t]
  | callby {r : V} (hr : r ∈ regs) : CRow ts [.str "callby", r]
  | out {r : V} (hr : r ∈ regs) : CRow ts [.str "out", r]
  | back : CRow ts [.str "back"]
  | halt : CRow ts [.str "halt"]
  | room {k : Int} (h0 : 1 ≤ k) (h1 : k ≤ 120) : CRow ts [.str "room", .int k]
/-- a data row -/
inductive DRow (ts : List Str) : List V → Prop where
  | word {n : Int} (h0 : 0 ≤ n) (h1 : n ≤ 65535) : DRow ts [.str "word", .int n]
  | address {t : Str} (ht : t ∈ ts) : DRow ts [.str "address", .str t]
  | room {k : Int} (h0 : 1 ≤ k) (h1 : k ≤ 120) : DRow ts [.str "room", .int k]
theorem Stp.putnew {b p : Addr} {H H' : Hp} {o : HO} (s : Stp b H H') (h : H p = none) : Stp b H (upd H' p o) := fun a u n e => by
  rw [upd_ne (ne_of_none e h)]
  exact s a u n e
theorem cut_to {cs : List Nat} {k : Int} (h : 0 ≤ k) : cutS (⟨cs.toArray⟩ : Str) none (some k) = ⟨(cs.take k.toNat).toArray⟩ := (C8.cutS_slice _ _ _).trans (SX.slice_to h)
theorem cut_from {cs : List Nat} {k : Int} (h : 0 ≤ k) : cutS (⟨cs.toArray⟩ : Str) (some k) none = ⟨(cs.drop k.toNat).toArray⟩ := (C8.cutS_slice _ _ _).trans (SX.slice_from h)
theorem cat_S (a b : List Nat) : (⟨a.toArray⟩ : Str) ++ (⟨b.toArray⟩ : Str) = ⟨(a ++ b).toArray⟩ := SX.S_cat a b
theorem len_S (a : List Nat) : (⟨a.toArray⟩ : Str).length = a.length := SX.S_len a
theorem map_er {α β : Type} (f : α → β) : ∀ (l : List α) (i : Nat), (l.map f).eraseIdx i = (l.eraseIdx i).map f
  | [], _ => rfl
  | _ :: _, 0 => rfl
  | a :: l, i + 1 => congrArg (f a :: ·) (map_er f l i)
theorem Thg.abc {K : PySem.W.Frag} {H : Hp} {b : Addr} : Thg K H b (.str "abcdefghijklmnopqrstuvwxyz") (fun v => ∃ c, v = .str ⟨#[c]⟩ ∧ inL c = true) :=
  .inl ⟨_, rfl, by decide +kernel, by decide +kernel, fun c m => ⟨c, rfl, by rw [← in_abc]; exact decide_eq_true m⟩⟩
section
variable {P : Program} {w : World} {K : PySem.W.Frag} {mg : Str → Option Value} {base : Heap} {Z : Fs}
/-! ### _law_titles -/
def sp_law_titles (K : PySem.W.Frag) : Sp := fun vs H Q _ => ∃ (b l : Addr), vs = [.ref b, .int 3] ∧ Bag H b l ∧ ∀ (H' : Hp) (p : Addr) (zs : List Str), Stp b H H' → Bag H' b l → H p = none → p ≠ b → p ≠ l → H' p = some (.lst (zs.map V.str)) → zs.length = 3 → (∀ z ∈ zs, Nm z) → Q (.ref p) H'
theorem ok_law_titles (T : Txt K w mg Z) : FnOk P w K mg base CX0 3 Z.a_law_titles Z.d_law_titles ["_law_bag_here", "_law_many"] (sp_law_titles K) := by
  have G_law_draw : FnOk P w K mg base CX0 1 Z.a_law_draw Z.d_law_draw ["_law_bag_here", "_law_sides"] sp_law_draw := ok_law_draw T
  have G_law_of : FnOk P w K mg base CX0 2 Z.a_law_of Z.d_law_of ["_law_bag_here", "_law_things"] (sp_law_of K) := ok_law_of T
  refine T.F_law_titles.ok sc_law_titles (fun vs H Q E h => ?_) (fun cdv A outer s H vs Q E hr h => ?_)
  · obtain ⟨b, l, rfl, _⟩ := h
    rfl
  · obtain ⟨b, l, rfl, B, k⟩ := h
    refine ⟨_, (pss_cons (ps_par (i := 2) (j := 3) (by rfl) sc_law_titles.nd rfl rfl (by decide) rfl rfl (pa_cons (pe_callTy (call_list_str1 rfl) (by rfl) T.n_list boot_list (pa_cons pe_str pa_nil)) (pa_cons (pe_lst pa_nil) pa_nil)) (by rfl))
      (pss_cons (ps_set (i := 4) sc_law_titles.nd rfl (Or.inl rfl) (pe_join pe_str (pe_lc (own := [("_law_k", 5)]) (g := gName 5) (tt := tYes) rfl sc_law_titles.nd (pi_range1 (by rfl) T.n_range (pa_cons (pe_call G_law_draw (hr.mono (by omega)) (by rfl) T.m_law_draw T.F_law_draw.kp T.b_law_draw .nil pass0 (pa_cons (pv 0) (pa_cons pe_int pa_nil))) pa_nil)) (blkOk_by (N := N_law_titles) (sc := defScope s_law_titles) (by decide +kernel)) (fun _ _ _ _ _ => pg_name (i := 5) sc_law_titles.nd rfl (Or.inl rfl)) (fun _ _ _ _ _ => pts_nil) (fun _ _ _ _ _ => (pe_call G_law_of (hr.mono (by omega)) (by rfl) T.m_law_of T.F_law_of.kp T.b_law_of .nil pass0 (pa_cons (pv 0) (pa_cons pe_str pa_nil)))))))
      (pss_cons (ps_set (i := 6) sc_law_titles.nd rfl (Or.inl rfl) (pe_call G_law_draw (hr.mono (by omega)) (by rfl) T.m_law_draw T.F_law_draw.kp T.b_law_draw .nil pass0 (pa_cons (pv 0) (pa_cons (pe_op op_add (pe_callB call_len (by rfl) T.n_len boot_len (pa_cons (pv 4) pa_nil)) pe_int) pa_nil))))
      (pss_cons (ps_for PassesOwn.never rfl (pi_range1 (by rfl) T.n_range (pa_cons (pv 1) pa_nil)) (pg_name (i := 5) sc_law_titles.nd rfl (Or.inl rfl)) (pss_one (ps_expr (pe_bm PySem.F.plainAttrs_list PySem.F.slot_list_append PySem.F.type_list_append mt_append (pv 3) (pa_cons (pe_op op_add_str (pe_op op_add_str (pe_slice sl_str (pv 4) po_none (po_some (pv 6))) (pe_bm PySem.F.plainAttrs_list PySem.F.slot_list_pop PySem.F.type_list_pop mt_popAt (pv 2) (pa_cons (pe_call G_law_draw (hr.mono (by omega)) (by rfl) T.m_law_draw T.F_law_draw.kp T.b_law_draw .nil pass0 (pa_cons (pv 0) (pa_cons (pe_callB call_len (by rfl) T.n_len boot_len (pa_cons (pv 2) pa_nil)) pa_nil))) pa_nil))) (pe_slice sl_str (pv 4) (po_some (pv 6)) po_none)) pa_nil)))))
      (pss_one (ps_ret (pv 3))))))), ?_⟩
    refine ⟨_, rfl, (by decide +kernel), fun p1 h1 => ⟨Nat.zero_le _, fun p2 h2 => ⟨_, _, rfl, ?_⟩⟩⟩
    have n1 := B.ne h1
    have l1 := B.nel h1
    have s1 : Same H (upd H p1 (.lst (("abcdefghijklmnopqrstuvwxyz" : Str).cps.toList.map fun c => V.str ⟨#[c]⟩))) := Same.new h1
    have e1 : (upd H p1 (.lst (("abcdefghijklmnopqrstuvwxyz" : Str).cps.toList.map fun c => V.str ⟨#[c]⟩))) p1 = some (.lst (("abcdefghijklmnopqrstuvwxyz" : Str).cps.toList.map fun c => V.str ⟨#[c]⟩)) := upd_same
    generalize upd H p1 (.lst (("abcdefghijklmnopqrstuvwxyz" : Str).cps.toList.map fun c => V.str ⟨#[c]⟩)) = H1 at s1 e1 h2 ⊢
    have B1 := B.same s1
    have n2 := B1.ne h2
    have l2 := B1.nel h2
    have n12 : p1 ≠ p2 := ne_of_none e1 h2
    have z2 : H p2 = none := s1.free h2
    have s2 : Same H1 (upd H1 p2 (.lst [])) := Same.new h2
    have e2 : (upd H1 p2 (.lst [])) p2 = some (.lst []) := upd_same
    generalize upd H1 p2 (.lst []) = H2 at s2 e2 ⊢
    replace e1 := s2 _ _ e1
    have B2 := B1.same s2
    have s02 : Stp b H H2 := Same.stp (s1.trans s2)
    clear s1 s2 B1 h2
    -- stem
    refine ⟨⟨_, rfl⟩, .ref b, rfl, b, l, 6, rfl, B2, by decide, by decide, fun H3 d s3 B3 g0 g1 => ⟨d, rfl, by omega, by omega, fun D hD => ?_⟩⟩
    have nD := B3.ne hD
    have lD := B3.nel hD
    refine lc_it walk_range (fun i H' => Bag H' b l ∧ Stp b H3 H' ∧ ∃ cs : List Nat, H' D = some (.lst ((cs.map fun c => (⟨#[c]⟩ : Str)).map V.str)) ∧ cs.length = i ∧ ∀ c ∈ cs, inL c = true) ⟨B3.new hD, Stp.new hD, [], upd_same, rfl, mem0⟩ (fun _ _ _ _ => True.intro) ?_ ?_
    · rintro j x H4 H5 hj ⟨B4, s4, cs, e4, lc, hc⟩ ⟨rfl, rfl⟩
      refine ⟨rfl, .ref b, rfl, b, l, _, _, rfl, B4, Thg.abc, fun H6 v s6 B6 hv => ?_⟩
      obtain ⟨c, rfl, hc4⟩ := hv
      refine ⟨_, s6 _ _ nD e4, ?_, B6.put nD lD, (s4.trans s6).putnew hD, cs ++ [c], ?_, ?_, mema hc (mem1 hc4)⟩
      · rw [List.length_map, List.length_map, lc]
        exact Nat.lt_of_lt_of_le (show j < 6 by omega) (by decide)
      · rw [upd_same]
        simp
      · simp [lc]
    rintro H4 ⟨B4, s4, cs, e4, lc, hc⟩
    refine ⟨_, D, cs.map fun c => (⟨#[c]⟩ : Str), rfl, rfl, .inl (SqL.of e4), ?_, ?_⟩
    · rw [len_ones, List.length_map, lc]
      show d.toNat + d.toNat * 0 ≤ 16777216
      omega
    rw [join_ones]
    have lc' : cs.length ≤ 5 := by omega
    replace s4 := s3.trans s4
    replace s02 := s02.trans s4
    replace e1 := s4 _ _ n1 e1
    replace e2 := s4 _ _ n2 e2
    clear e4 lc nD lD hD B3 s3 B2 s4 g0 g1
    -- spot
    refine ⟨.ref b, rfl, _, rfl, _, cs.length, rfl, ⟨by rw [len_S]; exact Nat.le_trans lc' (by decide), (len_S cs).symm⟩, _, _, rfl, rfl, b, l, _, rfl, B4, by omega, by omega, fun H5 sp s5 B5 q0 q1 => ?_⟩
    replace s02 := s02.trans s5
    replace e1 := s5 _ _ n1 e1
    replace e2 := s5 _ _ n2 e2
    clear s5 B4
    refine ⟨.int 3, rfl, 3, rfl, by decide, by decide, for_range (lo := 0) (n := 3) (fun i σ H' => ∃ (y5 : Option V) (ls : List Nat) (zs : List Str), σ = [some (.ref b), some (.int 3), some (.ref p1), some (.ref p2), some (.str ⟨cs.toArray⟩), y5, some (.int sp)] ∧ Bag H' b l ∧ Stp b H H' ∧
      H' p1 = some (.lst (ls.map fun c => V.str ⟨#[c]⟩)) ∧ ls.length + i = 26 ∧ (∀ c ∈ ls, inL c = true) ∧ H' p2 = some (.lst (zs.map V.str)) ∧ zs.length = i ∧ ∀ z ∈ zs, Nm z)
      ⟨_, _, [], rfl, B5, s02, e1, by decide +kernel, (fun c m => by rw [← in_abc]; exact decide_eq_true m), e2, rfl, mem0⟩ ?_ ?_⟩
    · rintro i σ H6 hi ⟨y5, ls, zs, rfl, B6, s6, f1, ll, hl, f2, lz, hz⟩
      refine ⟨.ref p2, rfl, .inl ⟨rfl, _, SqL.of f2⟩, _, rfl, .int sp, rfl, sp, rfl, _, rfl, (by rw [len_S]; exact Nat.le_trans lc' (by decide)), ?_⟩
      rw [cut_to q0]
      refine ⟨.ref p1, rfl, .inl ⟨rfl, _, SqL.of f1⟩, .ref b, rfl, .ref p1, rfl, .ref p1, ls.length, rfl, .inl ⟨_, SqL.of f1, by rw [List.length_map]⟩, b, l, _, rfl, B6, by omega, by omega, fun H7 d s7 B7 d0 d1 => ?_⟩
      have hd : d.toNat < ls.length := by omega
      refine ⟨p1, _, d, d.toNat, .str ⟨#[ls[d.toNat]]⟩, rfl, rfl, s7 _ _ n1 f1, by omega, by omega, (by rw [List.length_map]; exact seqIndex_of d0 (by omega)), (by rw [List.getElem?_map, List.getElem?_eq_getElem hd]; rfl), ?_⟩
      refine ⟨_, _, rfl, rfl, (by rw [len_S]; show _ + 1 ≤ sizeLine; exact Nat.le_trans (show (cs.take sp.toNat).length + 1 ≤ 100 by rw [List.length_take]; omega) (by decide)), ?_⟩
      rw [show (⟨#[ls[d.toNat]]⟩ : Str) = ⟨[ls[d.toNat]].toArray⟩ from rfl, cat_S]
      refine ⟨_, rfl, .int sp, rfl, sp, rfl, _, rfl, (by rw [len_S]; exact Nat.le_trans lc' (by decide)), ?_⟩
      rw [cut_from q0]
      refine ⟨_, _, rfl, rfl, (by rw [len_S, len_S]; exact Nat.le_trans (show (cs.take sp.toNat ++ [ls[d.toNat]]).length + (cs.drop sp.toNat).length ≤ 100 by rw [List.length_append, List.length_take, List.length_drop, List.length_singleton]; omega) (by decide)), ?_⟩
      rw [cat_S]
      have g2 : (upd H7 p1 (.lst ((ls.map fun c => V.str ⟨#[c]⟩).eraseIdx d.toNat))) p2 = some (.lst (zs.map V.str)) := by
        rw [upd_ne n12.symm]
        exact s7 _ _ n2 f2
      refine ⟨p2, _, _, rfl, rfl, g2, (by rw [List.length_map, lz]; exact Nat.lt_of_lt_of_le (show i < 3 from hi) (by decide)), ?_⟩
      refine ⟨_, ls.eraseIdx d.toNat, zs ++ [_], rfl, (B7.put n1 l1).put n2 l2, ((s6.trans s7).putnew h1).putnew z2, ?_, ?_, fun c m => hl c (List.mem_of_mem_eraseIdx m), by rw [upd_same, List.map_append]; rfl, by rw [List.length_append, lz]; rfl, mema hz (mem1 ?_)⟩
      · rw [upd_ne n12, upd_same]
        rw [map_er]
      · rw [List.length_eraseIdx_of_lt hd]
        omega
      · refine ⟨?_, ?_, ?_⟩
        · simp
          omega
        · simp
          omega
        · rw [List.all_eq_true]
          intro c m
          have m : c ∈ (cs.take sp.toNat ++ [ls[d.toNat]]) ++ cs.drop sp.toNat := by simpa using m
          rcases List.mem_append.mp m with m | m
          · rcases List.mem_append.mp m with m | m
            · exact hc c (List.mem_of_mem_take m)
            · rw [List.mem_singleton.mp m]
              exact hl _ (List.getElem_mem hd)
          · exact hc c (List.mem_of_mem_drop m)
    · rintro σ H6 ⟨y5, ls, zs, rfl, B6, s6, f1, ll, hl, f2, lz, hz⟩
      exact ⟨.ref p2, rfl, k _ _ zs s6 B6 z2 n2 l2 f2 lz hz⟩
/-! ### _law_number, _law_r -/
def sp_law_number : Sp := fun vs H Q _ => ∃ (b l : Addr), vs = [.ref b] ∧ Bag H b l ∧ ∀ (H' : Hp) (i : Int), Stp b H H' → Bag H' b l → 0 ≤ i → i ≤ 65535 → Q (.int i) H'
theorem ok_law_number (T : Txt K w mg Z) : FnOk P w K mg base CX0 3 Z.a_law_number Z.d_law_number ["_law_bag_here"] sp_law_number := by
  have G_law_draw : FnOk P w K mg base CX0 1 Z.a_law_draw Z.d_law_draw ["_law_bag_here", "_law_sides"] sp_law_draw := ok_law_draw T
  have G_law_of : FnOk P w K mg base CX0 2 Z.a_law_of Z.d_law_of ["_law_bag_here", "_law_things"] (sp_law_of K) := ok_law_of T
  refine T.F_law_number.ok sc_law_number (fun vs H Q E h => ?_) (fun cdv A outer s H vs Q E hr h => ?_)
  · obtain ⟨b, l, rfl, _⟩ := h
    rfl
  · obtain ⟨b, l, rfl, B, k⟩ := h
    refine ⟨_, (pss_one (ps_ret (pe_call G_law_of (hr.mono (by omega)) (by rfl) T.m_law_of T.F_law_of.kp T.b_law_of .nil pass0 (pa_cons (pv 0) (pa_cons (pe_lst (pa_cons pe_int (pa_cons pe_int (pa_cons pe_int (pa_cons pe_int (pa_cons pe_int (pa_cons pe_int (pa_cons pe_int (pa_cons (pe_call G_law_draw (hr.mono (by omega)) (by rfl) T.m_law_draw T.F_law_draw.kp T.b_law_draw .nil pass0 (pa_cons (pv 0) (pa_cons pe_int pa_nil))) (pa_cons (pe_call G_law_draw (hr.mono (by omega)) (by rfl) T.m_law_draw T.F_law_draw.kp T.b_law_draw .nil pass0 (pa_cons (pv 0) (pa_cons pe_int pa_nil))) (pa_cons (pe_call G_law_draw (hr.mono (by omega)) (by rfl) T.m_law_draw T.F_law_draw.kp T.b_law_draw .nil pass0 (pa_cons (pv 0) (pa_cons pe_int pa_nil))) pa_nil))))))))))) pa_nil))))), ?_⟩
    refine ⟨.ref b, rfl, .ref b, rfl, b, l, 300, rfl, B, by decide, by decide, fun H1 d1 s1 B1 _ _ => ?_⟩
    refine ⟨.ref b, rfl, b, l, 65536, rfl, B1, by decide, by decide, fun H2 d2 s2 B2 _ _ => ?_⟩
    refine ⟨.ref b, rfl, b, l, 65536, rfl, B2, by decide, by decide, fun H3 d3 s3 B3 _ _ => ?_⟩
    refine ⟨(by show 10 ≤ sizeLine; decide), fun p hp => ?_⟩
    refine ⟨b, l, .ref p, fun v => ∃ i, v = .int i ∧ 0 ≤ i ∧ i ≤ 65535, rfl, B3.new hp, .lst (B3.ne hp) (SqL.of upd_same) (by show 0 < 10; decide) (by show 10 ≤ 100000; decide) ?_, fun H4 v s4 B4 hv => ?_⟩
    · exact memc ⟨_, rfl, by decide, by decide⟩ (memc ⟨_, rfl, by decide, by decide⟩ (memc ⟨_, rfl, by decide, by decide⟩ (memc ⟨_, rfl, by decide, by decide⟩ (memc ⟨_, rfl, by decide, by decide⟩ (memc ⟨_, rfl, by decide, by decide⟩ (memc ⟨_, rfl, by decide, by decide⟩ (memc ⟨_, rfl, by omega, by omega⟩ (memc ⟨_, rfl, by omega, by omega⟩ (mem1 ⟨_, rfl, by omega, by omega⟩)))))))))
    · obtain ⟨i, rfl, i0, i1⟩ := hv
      exact k _ _ ((((s1.trans s2).trans s3).trans (Stp.new hp)).trans s4) B4 i0 i1
def sp_law_r : Sp := fun vs H Q _ => ∃ (b l : Addr), vs = [.ref b] ∧ Bag H b l ∧ ∀ (H' : Hp) (v : V), Stp b H H' → Bag H' b l → v ∈ regs → Q v H'
theorem ok_law_r (T : Txt K w mg Z) : FnOk P w K mg base CX0 3 Z.a_law_r Z.d_law_r ["_law_bag_here"] sp_law_r := by
  have G_law_of : FnOk P w K mg base CX0 2 Z.a_law_of Z.d_law_of ["_law_bag_here", "_law_things"] (sp_law_of K) := ok_law_of T
  refine T.F_law_r.ok sc_law_r (fun vs H Q E h => ?_) (fun cdv A outer s H vs Q E hr h => ?_)
  · obtain ⟨b, l, rfl, _⟩ := h
    rfl
  · obtain ⟨b, l, rfl, B, k⟩ := h
    refine ⟨_, (pss_one (ps_ret (pe_call G_law_of (hr.mono (by omega)) (by rfl) T.m_law_of T.F_law_of.kp T.b_law_of .nil pass0 (pa_cons (pv 0) (pa_cons (pe_lst (pa_cons pe_str (pa_cons pe_str (pa_cons pe_str pa_nil)))) pa_nil))))), ?_⟩
    refine ⟨.ref b, rfl, (by show 3 ≤ sizeLine; decide), fun p hp => ?_⟩
    exact ⟨b, l, .ref p, fun v => v ∈ regs, rfl, B.new hp, .lst (B.ne hp) (SqL.of upd_same) (by show 0 < 3; decide) (by show 3 ≤ 100000; decide) (fun v m => m), fun H4 v s4 B4 hv => k _ _ ((Stp.new hp).trans s4) B4 hv⟩
end

section
variable {P : Program} {w : World} {K : PySem.W.Frag} {mg : Str → Option Value} {base : Heap} {Z : Fs}
/-! ### drawn rows -/
/-- the names at hand: a list of texts, not the bag -/
def Tls (H : Hp) (b t : Addr) (ts : List Str) : Prop := H t = some (.lst (ts.map V.str)) ∧ t ≠ b ∧ 0 < ts.length ∧ ts.length ≤ 1000
theorem Tls.stp {H H' : Hp} {b t : Addr} {ts : List Str} (s : Stp b H H') (h : Tls H b t ts) : Tls H' b t ts := ⟨s _ _ h.2.1 h.1, h.2⟩
theorem Tls.thg {H : Hp} {b t : Addr} {ts : List Str} (h : Tls H b t ts) : Thg K H b (.ref t) (fun v => ∃ z, v = .str z ∧ z ∈ ts) :=
  .lst h.2.1 (SqL.of h.1) (by rw [List.length_map]; exact h.2.2.1) (by rw [List.length_map]; exact Nat.le_trans h.2.2.2 (by decide)) fun v m => by
    obtain ⟨z, hz, rfl⟩ := List.mem_map.mp m
    exact ⟨z, rfl, hz⟩
def sp_law_code_row : Sp := fun vs H Q _ => ∃ (b l t : Addr) (ts : List Str), vs = [.ref b, .ref t] ∧ Bag H b l ∧ Tls H b t ts ∧ ∀ (H' : Hp) (a : Addr) (xs : List V), Stp b H H' → Bag H' b l → H' a = some (.tup xs) → a ≠ b → CRow ts xs → Q (.ref a) H'
theorem ok_law_code_row (T : Txt K w mg Z) : FnOk P w K mg base CX0 4 Z.a_law_code_row Z.d_law_code_row ["_law_bag_here", "_law_titles_here"] sp_law_code_row := by
  have G_law_draw : FnOk P w K mg base CX0 1 Z.a_law_draw Z.d_law_draw ["_law_bag_here", "_law_sides"] sp_law_draw := ok_law_draw T
  have G_law_of : FnOk P w K mg base CX0 2 Z.a_law_of Z.d_law_of ["_law_bag_here", "_law_things"] (sp_law_of K) := ok_law_of T
  have G_law_number : FnOk P w K mg base CX0 3 Z.a_law_number Z.d_law_number ["_law_bag_here"] sp_law_number := ok_law_number T
  have G_law_r : FnOk P w K mg base CX0 3 Z.a_law_r Z.d_law_r ["_law_bag_here"] sp_law_r := ok_law_r T
  refine T.F_law_code_row.ok sc_law_code_row (fun vs H Q E h => ?_) (fun cdv A outer s H vs Q E hr h => ?_)
  · obtain ⟨b, l, t, ts, rfl, _⟩ := h
    rfl
  · obtain ⟨b, l, t, ts, rfl, B, TT, k⟩ := h
    refine ⟨_, (pss_cons (ps_set (i := 2) sc_law_code_row.nd rfl (Or.inl rfl) (pe_call G_law_draw (hr.mono (by omega)) (by rfl) T.m_law_draw T.F_law_draw.kp T.b_law_draw .nil pass0 (pa_cons (pv 0) (pa_cons pe_int pa_nil))))
      (pss_cons (ps_if (pt_cmpR op_lt (pv 2) pe_int (nomark _)) (pss_one (ps_ret (pe_tup (pa_cons pe_str (pa_cons (pe_call G_law_r (hr.mono (by omega)) (by rfl) T.m_law_r T.F_law_r.kp T.b_law_r .nil pass0 (pa_cons (pv 0) pa_nil)) (pa_cons (pe_call G_law_number (hr.mono (by omega)) (by rfl) T.m_law_number T.F_law_number.kp T.b_law_number .nil pass0 (pa_cons (pv 0) pa_nil)) pa_nil)))))) pss_nil)
      (pss_cons (ps_if (pt_cmpR op_lt (pv 2) pe_int (nomark _)) (pss_one (ps_ret (pe_tup (pa_cons (pe_call G_law_of (hr.mono (by omega)) (by rfl) T.m_law_of T.F_law_of.kp T.b_law_of .nil pass0 (pa_cons (pv 0) (pa_cons (pe_lst (pa_cons pe_str (pa_cons pe_str pa_nil))) pa_nil))) (pa_cons (pe_call G_law_r (hr.mono (by omega)) (by rfl) T.m_law_r T.F_law_r.kp T.b_law_r .nil pass0 (pa_cons (pv 0) pa_nil)) (pa_cons (pe_call G_law_of (hr.mono (by omega)) (by rfl) T.m_law_of T.F_law_of.kp T.b_law_of .nil pass0 (pa_cons (pv 0) (pa_cons (pv 1) pa_nil))) pa_nil)))))) pss_nil)
      (pss_cons (ps_if (pt_cmpR op_lt (pv 2) pe_int (nomark _)) (pss_one (ps_ret (pe_tup (pa_cons (pe_call G_law_of (hr.mono (by omega)) (by rfl) T.m_law_of T.F_law_of.kp T.b_law_of .nil pass0 (pa_cons (pv 0) (pa_cons (pe_lst (pa_cons pe_str (pa_cons pe_str pa_nil))) pa_nil))) (pa_cons (pe_call G_law_r (hr.mono (by omega)) (by rfl) T.m_law_r T.F_law_r.kp T.b_law_r .nil pass0 (pa_cons (pv 0) pa_nil)) (pa_cons (pe_call G_law_r (hr.mono (by omega)) (by rfl) T.m_law_r T.F_law_r.kp T.b_law_r .nil pass0 (pa_cons (pv 0) pa_nil)) pa_nil)))))) pss_nil)
      (pss_cons (ps_if (pt_cmpR op_lt (pv 2) pe_int (nomark _)) (pss_one (ps_ret (pe_tup (pa_cons (pe_call G_law_of (hr.mono (by omega)) (by rfl) T.m_law_of T.F_law_of.kp T.b_law_of .nil pass0 (pa_cons (pv 0) (pa_cons (pe_lst (pa_cons pe_str (pa_cons pe_str pa_nil))) pa_nil))) (pa_cons (pe_call G_law_r (hr.mono (by omega)) (by rfl) T.m_law_r T.F_law_r.kp T.b_law_r .nil pass0 (pa_cons (pv 0) pa_nil)) (pa_cons (pe_call G_law_r (hr.mono (by omega)) (by rfl) T.m_law_r T.F_law_r.kp T.b_law_r .nil pass0 (pa_cons (pv 0) pa_nil)) (pa_cons (pe_call G_law_of (hr.mono (by omega)) (by rfl) T.m_law_of T.F_law_of.kp T.b_law_of .nil pass0 (pa_cons (pv 0) (pa_cons (pe_lst (pa_cons pe_int (pa_cons pe_int (pa_cons (pe_call G_law_draw (hr.mono (by omega)) (by rfl) T.m_law_draw T.F_law_draw.kp T.b_law_draw .nil pass0 (pa_cons (pv 0) (pa_cons pe_int pa_nil))) pa_nil)))) pa_nil))) pa_nil))))))) pss_nil)
      (pss_cons (ps_if (pt_cmpR op_lt (pv 2) pe_int (nomark _)) (pss_one (ps_ret (pe_tup (pa_cons (pe_call G_law_of (hr.mono (by omega)) (by rfl) T.m_law_of T.F_law_of.kp T.b_law_of .nil pass0 (pa_cons (pv 0) (pa_cons (pe_lst (pa_cons pe_str (pa_cons pe_str pa_nil))) pa_nil))) (pa_cons (pe_call G_law_of (hr.mono (by omega)) (by rfl) T.m_law_of T.F_law_of.kp T.b_law_of .nil pass0 (pa_cons (pv 0) (pa_cons (pv 1) pa_nil))) pa_nil))))) pss_nil)
      (pss_cons (ps_if (pt_cmpR op_lt (pv 2) pe_int (nomark _)) (pss_one (ps_ret (pe_tup (pa_cons (pe_call G_law_of (hr.mono (by omega)) (by rfl) T.m_law_of T.F_law_of.kp T.b_law_of .nil pass0 (pa_cons (pv 0) (pa_cons (pe_lst (pa_cons pe_str (pa_cons pe_str pa_nil))) pa_nil))) (pa_cons (pe_call G_law_r (hr.mono (by omega)) (by rfl) T.m_law_r T.F_law_r.kp T.b_law_r .nil pass0 (pa_cons (pv 0) pa_nil)) pa_nil))))) pss_nil)
      (pss_one (ps_ret (pe_call G_law_of (hr.mono (by omega)) (by rfl) T.m_law_of T.F_law_of.kp T.b_law_of .nil pass0 (pa_cons (pv 0) (pa_cons (pe_lst (pa_cons (pe_tup (pa_cons pe_str pa_nil)) (pa_cons (pe_tup (pa_cons pe_str pa_nil)) (pa_cons (pe_tup (pa_cons pe_str (pa_cons (pe_call G_law_of (hr.mono (by omega)) (by rfl) T.m_law_of T.F_law_of.kp T.b_law_of .nil pass0 (pa_cons (pv 0) (pa_cons (pe_lst (pa_cons pe_int (pa_cons pe_int (pa_cons pe_int (pa_cons pe_int pa_nil))))) pa_nil))) pa_nil))) pa_nil)))) pa_nil)))))))))))), ?_⟩
    refine ⟨.ref b, rfl, b, l, 14, rfl, B, by decide, by decide, fun H0 d s0 B0 _ _ => ?_⟩
    have T0 := TT.stp s0
    refine ⟨_, rfl, _, _, rfl, rfl, _, rfl, ite2 (fun _ => ?_) (fun _ => ?_)⟩
    · -- put
      refine ⟨.ref b, rfl, b, l, rfl, B0, fun H1 r s1 B1 hr1 => ⟨.ref b, rfl, b, l, rfl, B1, fun H2 n s2 B2 n0 n1 => ⟨(by show 3 ≤ sizeLine; decide), fun p hp => ?_⟩⟩⟩
      exact k _ p _ (((s0.trans s1).trans s2).trans (Stp.new hp)) (B2.new hp) upd_same (B2.ne hp) (.put hr1 n0 n1)
    refine ⟨_, rfl, _, _, rfl, rfl, _, rfl, ite2 (fun _ => ?_) (fun _ => ?_)⟩
    · -- name, ifzero
      refine ⟨.ref b, rfl, (by show 2 ≤ sizeLine; decide), fun q hq => ⟨b, l, .ref q, fun v => v ∈ [V.str "name", V.str "ifzero"], rfl, B0.new hq, .lst (B0.ne hq) (SqL.of upd_same) (by show 0 < 2; decide) (by show 2 ≤ 100000; decide) (fun v m => m), fun H1 v s1 B1 hv => ?_⟩⟩
      replace s1 := (Stp.new hq).trans s1
      refine ⟨.ref b, rfl, b, l, rfl, B1, fun H2 r s2 B2 hr2 => ?_⟩
      have T2 := (T0.stp s1).stp s2
      refine ⟨.ref b, rfl, .ref t, rfl, b, l, .ref t, _, rfl, B2, T2.thg, fun H3 u s3 B3 hu => ?_⟩
      obtain ⟨z, rfl, hz⟩ := hu
      refine ⟨(by show 3 ≤ sizeLine; decide), fun p hp => ?_⟩
      have ss := (((s0.trans s1).trans s2).trans s3).trans (Stp.new (o := .tup [v, r, .str z]) hp)
      rcases List.mem_cons.mp hv with rfl | hv
      · exact k _ p _ ss (B3.new hp) upd_same (B3.ne hp) (.name hr2 hz)
      · rw [List.mem_singleton.mp hv] at ss ⊢
        exact k _ p _ ss (B3.new hp) upd_same (B3.ne hp) (.ifzero hr2 hz)
    refine ⟨_, rfl, _, _, rfl, rfl, _, rfl, ite2 (fun _ => ?_) (fun _ => ?_)⟩
    · -- add, take
      refine ⟨.ref b, rfl, (by show 2 ≤ sizeLine; decide), fun q hq => ⟨b, l, .ref q, fun v => v ∈ [V.str "add", V.str "take"], rfl, B0.new hq, .lst (B0.ne hq) (SqL.of upd_same) (by show 0 < 2; decide) (by show 2 ≤ 100000; decide) (fun v m => m), fun H1 v s1 B1 hv => ?_⟩⟩
      replace s1 := (Stp.new hq).trans s1
      refine ⟨.ref b, rfl, b, l, rfl, B1, fun H2 r s2 B2 hr2 => ⟨.ref b, rfl, b, l, rfl, B2, fun H3 r3 s3 B3 hr3 => ⟨(by show 3 ≤ sizeLine; decide), fun p hp => ?_⟩⟩⟩
      have ss := (((s0.trans s1).trans s2).trans s3).trans (Stp.new (o := .tup [v, r, r3]) hp)
      rcases List.mem_cons.mp hv with rfl | hv
      · exact k _ p _ ss (B3.new hp) upd_same (B3.ne hp) (.add hr2 hr3)
      · rw [List.mem_singleton.mp hv] at ss ⊢
        exact k _ p _ ss (B3.new hp) upd_same (B3.ne hp) (.take hr2 hr3)
    refine ⟨_, rfl, _, _, rfl, rfl, _, rfl, ite2 (fun _ => ?_) (fun _ => ?_)⟩
    · -- load, store
      refine ⟨.ref b, rfl, (by show 2 ≤ sizeLine; decide), fun q hq => ⟨b, l, .ref q, fun v => v ∈ [V.str "load", V.str "store"], rfl, B0.new hq, .lst (B0.ne hq) (SqL.of upd_same) (by show 0 < 2; decide) (by show 2 ≤ 100000; decide) (fun v m => m), fun H1 v s1 B1 hv => ?_⟩⟩
      replace s1 := (Stp.new hq).trans s1
      refine ⟨.ref b, rfl, b, l, rfl, B1, fun H2 r s2 B2 hr2 => ⟨.ref b, rfl, b, l, rfl, B2, fun H3 r3 s3 B3 hr3 => ?_⟩⟩
      refine ⟨.ref b, rfl, .ref b, rfl, b, l, 16, rfl, B3, by decide, by decide, fun H4 d4 s4 B4 g0 g1 => ⟨(by show 3 ≤ sizeLine; decide), fun q4 hq4 => ?_⟩⟩
      refine ⟨b, l, .ref q4, fun v => ∃ i, v = .int i ∧ 0 ≤ i ∧ i ≤ 15, rfl, B4.new hq4, .lst (B4.ne hq4) (SqL.of upd_same) (by show 0 < 3; decide) (by show 3 ≤ 100000; decide) (memc ⟨_, rfl, by decide, by decide⟩ (memc ⟨_, rfl, by decide, by decide⟩ (mem1 ⟨_, rfl, by omega, by omega⟩))), fun H5 u s5 B5 hu => ?_⟩
      obtain ⟨i, rfl, i0, i1⟩ := hu
      replace s5 := (s4.trans (Stp.new hq4)).trans s5
      refine ⟨(by show 4 ≤ sizeLine; decide), fun p hp => ?_⟩
      have ss := ((((s0.trans s1).trans s2).trans s3).trans s5).trans (Stp.new (o := .tup [v, r, r3, .int i]) hp)
      rcases List.mem_cons.mp hv with rfl | hv
      · exact k _ p _ ss (B5.new hp) upd_same (B5.ne hp) (.load hr2 hr3 i0 i1)
      · rw [List.mem_singleton.mp hv] at ss ⊢
        exact k _ p _ ss (B5.new hp) upd_same (B5.ne hp) (.store hr2 hr3 i0 i1)
    refine ⟨_, rfl, _, _, rfl, rfl, _, rfl, ite2 (fun _ => ?_) (fun _ => ?_)⟩
    · -- jump, call
      refine ⟨.ref b, rfl, (by show 2 ≤ sizeLine; decide), fun q hq => ⟨b, l, .ref q, fun v => v ∈ [V.str "jump", V.str "call"], rfl, B0.new hq, .lst (B0.ne hq) (SqL.of upd_same) (by show 0 < 2; decide) (by show 2 ≤ 100000; decide) (fun v m => m), fun H1 v s1 B1 hv => ?_⟩⟩
      replace s1 := (Stp.new hq).trans s1
      have T1 := T0.stp s1
      refine ⟨.ref b, rfl, .ref t, rfl, b, l, .ref t, _, rfl, B1, T1.thg, fun H3 u s3 B3 hu => ?_⟩
      obtain ⟨z, rfl, hz⟩ := hu
      refine ⟨(by show 2 ≤ sizeLine; decide), fun p hp => ?_⟩
      have ss := ((s0.trans s1).trans s3).trans (Stp.new (o := .tup [v, .str z]) hp)
      rcases List.mem_cons.mp hv with rfl | hv
      · exact k _ p _ ss (B3.new hp) upd_same (B3.ne hp) (.jump hz)
      · rw [List.mem_singleton.mp hv] at ss ⊢
        exact k _ p _ ss (B3.new hp) upd_same (B3.ne hp) (.call hz)
    refine ⟨_, rfl, _, _, rfl, rfl, _, rfl, ite2 (fun _ => ?_) (fun _ => ?_)⟩
    · -- callby, out
      refine ⟨.ref b, rfl, (by show 2 ≤ sizeLine; decide), fun q hq => ⟨b, l, .ref q, fun v => v ∈ [V.str "callby", V.str "out"], rfl, B0.new hq, .lst (B0.ne hq) (SqL.of upd_same) (by show 0 < 2; decide) (by show 2 ≤ 100000; decide) (fun v m => m), fun H1 v s1 B1 hv => ?_⟩⟩
      replace s1 := (Stp.new hq).trans s1
      refine ⟨.ref b, rfl, b, l, rfl, B1, fun H2 r s2 B2 hr2 => ⟨(by show 2 ≤ sizeLine; decide), fun p hp => ?_⟩⟩
      have ss := ((s0.trans s1).trans s2).trans (Stp.new (o := .tup [v, r]) hp)
      rcases List.mem_cons.mp hv with rfl | hv
      · exact k _ p _ ss (B2.new hp) upd_same (B2.ne hp) (.callby hr2)
      · rw [List.mem_singleton.mp hv] at ss ⊢
        exact k _ p _ ss (B2.new hp) upd_same (B2.ne hp) (.out hr2)
    · -- back, halt, room
      refine ⟨.ref b, rfl, (by show 1 ≤ sizeLine; decide), fun p1 h1 => ?_⟩
      have n1 := B0.ne h1
      have s1 : Same H0 (upd H0 p1 (.tup [V.str "back"])) := Same.new h1
      have e1 : (upd H0 p1 (.tup [V.str "back"])) p1 = some (.tup [V.str "back"]) := upd_same
      generalize upd H0 p1 (.tup [V.str "back"]) = H1 at s1 e1 ⊢
      have B1 := B0.same s1
      refine ⟨(by show 1 ≤ sizeLine; decide), fun p2 h2 => ?_⟩
      have n2 := B1.ne h2
      have s2 : Same H1 (upd H1 p2 (.tup [V.str "halt"])) := Same.new h2
      have e2 : (upd H1 p2 (.tup [V.str "halt"])) p2 = some (.tup [V.str "halt"]) := upd_same
      generalize upd H1 p2 (.tup [V.str "halt"]) = H2 at s2 e2 ⊢
      have B2 := B1.same s2
      refine ⟨.ref b, rfl, (by show 4 ≤ sizeLine; decide), fun q hq => ⟨b, l, .ref q, fun v => ∃ i, v = .int i ∧ 1 ≤ i ∧ i ≤ 120, rfl, B2.new hq, .lst (B2.ne hq) (SqL.of upd_same) (by show 0 < 4; decide) (by show 4 ≤ 100000; decide) (memc ⟨_, rfl, by decide, by decide⟩ (memc ⟨_, rfl, by decide, by decide⟩ (memc ⟨_, rfl, by decide, by decide⟩ (mem1 ⟨_, rfl, by decide, by decide⟩)))), fun H3 u s3 B3 hu => ?_⟩⟩
      obtain ⟨i, rfl, i0, i1⟩ := hu
      replace s3 := (Stp.new hq).trans s3
      refine ⟨(by show 2 ≤ sizeLine; decide), fun p3 h3 => ?_⟩
      have n3 := B3.ne h3
      have s4 : Same H3 (upd H3 p3 (.tup [V.str "room", V.int i])) := Same.new h3
      have e4 : (upd H3 p3 (.tup [V.str "room", V.int i])) p3 = some (.tup [V.str "room", V.int i]) := upd_same
      generalize upd H3 p3 (.tup [V.str "room", V.int i]) = H4 at s4 e4 ⊢
      have B4 := B3.same s4
      refine ⟨(by show 3 ≤ sizeLine; decide), fun q4 hq4 => ?_⟩
      have u1 : Stp b H0 H4 := ((Same.stp (s1.trans s2)).trans s3).trans (Same.stp s4)
      have f2 : H4 p2 = some (.tup [V.str "halt"]) := s4 _ _ (s3 _ _ n2 e2)
      have f1 : H4 p1 = some (.tup [V.str "back"]) := s4 _ _ (s3 _ _ n1 (s2 _ _ e1))
      refine ⟨b, l, .ref q4, fun v => ∃ (a : Addr) (xs : List V), v = .ref a ∧ H4 a = some (.tup xs) ∧ a ≠ b ∧ CRow ts xs, rfl, B4.new hq4, .lst (B4.ne hq4) (SqL.of upd_same) (by show 0 < 3; decide) (by show 3 ≤ 100000; decide) (memc ⟨_, _, rfl, f1, n1, .back⟩ (memc ⟨_, _, rfl, f2, n2, .halt⟩ (mem1 ⟨_, _, rfl, e4, n3, .room i0 i1⟩))), fun H5 u s5 B5 hu => ?_⟩
      obtain ⟨a, xs, rfl, ea, na, hx⟩ := hu
      exact k _ a xs (((s0.trans u1).trans (Stp.new hq4)).trans s5) B5 (s5 _ _ na ((Stp.new hq4) _ _ na ea)) na hx
def sp_law_data_row : Sp := fun vs H Q _ => ∃ (b l t : Addr) (ts : List Str), vs = [.ref b, .ref t] ∧ Bag H b l ∧ Tls H b t ts ∧ ∀ (H' : Hp) (a : Addr) (xs : List V), Stp b H H' → Bag H' b l → H' a = some (.tup xs) → a ≠ b → DRow ts xs → Q (.ref a) H'
theorem ok_law_data_row (T : Txt K w mg Z) : FnOk P w K mg base CX0 4 Z.a_law_data_row Z.d_law_data_row ["_law_bag_here", "_law_titles_here"] sp_law_data_row := by
  have G_law_draw : FnOk P w K mg base CX0 1 Z.a_law_draw Z.d_law_draw ["_law_bag_here", "_law_sides"] sp_law_draw := ok_law_draw T
  have G_law_of : FnOk P w K mg base CX0 2 Z.a_law_of Z.d_law_of ["_law_bag_here", "_law_things"] (sp_law_of K) := ok_law_of T
  have G_law_number : FnOk P w K mg base CX0 3 Z.a_law_number Z.d_law_number ["_law_bag_here"] sp_law_number := ok_law_number T
  refine T.F_law_data_row.ok sc_law_data_row (fun vs H Q E h => ?_) (fun cdv A outer s H vs Q E hr h => ?_)
  · obtain ⟨b, l, t, ts, rfl, _⟩ := h
    rfl
  · obtain ⟨b, l, t, ts, rfl, B, TT, k⟩ := h
    refine ⟨_, (pss_cons (ps_set (i := 2) sc_law_data_row.nd rfl (Or.inl rfl) (pe_call G_law_draw (hr.mono (by omega)) (by rfl) T.m_law_draw T.F_law_draw.kp T.b_law_draw .nil pass0 (pa_cons (pv 0) (pa_cons pe_int pa_nil))))
      (pss_cons (ps_if (pt_cmpR op_eq (pv 2) pe_int (nomark _)) (pss_one (ps_ret (pe_tup (pa_cons pe_str (pa_cons (pe_call G_law_number (hr.mono (by omega)) (by rfl) T.m_law_number T.F_law_number.kp T.b_law_number .nil pass0 (pa_cons (pv 0) pa_nil)) pa_nil))))) pss_nil)
      (pss_one (ps_ret (pe_ifExp (pt_cmpR op_eq (pv 2) pe_int (nomark _)) (pe_tup (pa_cons pe_str (pa_cons (pe_call G_law_of (hr.mono (by omega)) (by rfl) T.m_law_of T.F_law_of.kp T.b_law_of .nil pass0 (pa_cons (pv 0) (pa_cons (pv 1) pa_nil))) pa_nil))) (pe_tup (pa_cons pe_str (pa_cons (pe_call G_law_of (hr.mono (by omega)) (by rfl) T.m_law_of T.F_law_of.kp T.b_law_of .nil pass0 (pa_cons (pv 0) (pa_cons (pe_lst (pa_cons pe_int (pa_cons pe_int (pa_cons pe_int (pa_cons pe_int pa_nil))))) pa_nil))) pa_nil)))))))), ?_⟩
    refine ⟨.ref b, rfl, b, l, 3, rfl, B, by decide, by decide, fun H0 d s0 B0 _ _ => ?_⟩
    have T0 := TT.stp s0
    refine ⟨_, rfl, rfl, _, rfl, ite2 (fun _ => ?_) (fun _ => ?_)⟩
    · refine ⟨.ref b, rfl, b, l, rfl, B0, fun H2 n s2 B2 n0 n1 => ⟨(by show 2 ≤ sizeLine; decide), fun p hp => ?_⟩⟩
      exact k _ p _ ((s0.trans s2).trans (Stp.new hp)) (B2.new hp) upd_same (B2.ne hp) (.word n0 n1)
    refine ⟨_, rfl, rfl, _, rfl, ite2 (fun _ => ?_) (fun _ => ?_)⟩
    · refine ⟨.ref b, rfl, .ref t, rfl, b, l, .ref t, _, rfl, B0, T0.thg, fun H3 u s3 B3 hu => ?_⟩
      obtain ⟨z, rfl, hz⟩ := hu
      refine ⟨(by show 2 ≤ sizeLine; decide), fun p hp => ?_⟩
      exact k _ p _ ((s0.trans s3).trans (Stp.new hp)) (B3.new hp) upd_same (B3.ne hp) (.address hz)
    · refine ⟨.ref b, rfl, (by show 4 ≤ sizeLine; decide), fun q hq => ⟨b, l, .ref q, fun v => ∃ i, v = .int i ∧ 1 ≤ i ∧ i ≤ 120, rfl, B0.new hq, .lst (B0.ne hq) (SqL.of upd_same) (by show 0 < 4; decide) (by show 4 ≤ 100000; decide) (memc ⟨_, rfl, by decide, by decide⟩ (memc ⟨_, rfl, by decide, by decide⟩ (memc ⟨_, rfl, by decide, by decide⟩ (mem1 ⟨_, rfl, by decide, by decide⟩)))), fun H3 u s3 B3 hu => ?_⟩⟩
      obtain ⟨i, rfl, i0, i1⟩ := hu
      replace s3 := (Stp.new hq).trans s3
      refine ⟨(by show 2 ≤ sizeLine; decide), fun p hp => ?_⟩
      exact k _ p _ ((s0.trans s3).trans (Stp.new hp)) (B3.new hp) upd_same (B3.ne hp) (.room i0 i1)
end

/-! ### rows judged, as plain functions -/
def kindsL : List Str := ["R", "N", "n", "d", "k"]
def bnd (q : Str) : Int × Int := if q = "n" then (0, 65535) else if q = "d" then (0, 15) else (1, 120)
def fitV (q : Str) (x : V) : Bool := if q = "R" then regV x else if q = "N" then nmV x else numV x (bnd q).1 (bnd q).2
def fitA (xs : List V) (ks : List Str) : Bool := decide (xs.length = ks.length) && (List.zipWith fitV ks xs).all id
/-- the string of a kind -/
def kst (ks : List Str) : List V := ks.map V.str
/-- a value that is a tuple of xs, or none -/
def Tp (K : PySem.W.Frag) (H : Hp) (b : Addr) (n : Nat) (v : V) : Option (List V) → Prop
  | some xs => ∃ a, v = .ref a ∧ SqT K H a xs ∧ xs.length ≤ 100000 ∧ ∀ x ∈ xs, Okv K H b n x
  | none => ∃ t, TyX K H v t ∧ PySem.W.kitOne K t (.type "tuple") = some false
theorem TyX.same {K : PySem.W.Frag} {H H' : Hp} {v : V} {t : Value} (s : Same H H') (h : TyX K H v t) : TyX K H' v t := by
  cases h with
  | base h =>
    cases h with
    | non => exact .base .non
    | bl x => exact .base (.bl x)
    | int i => exact .base (.int i)
    | str x => exact .base (.str x)
    | flt x => exact .base (.flt x)
    | lst e => exact .base (.lst (s _ _ e))
    | frz e => exact .base (.frz (s _ _ e))
    | tup e => exact .base (.tup (s _ _ e))
    | dK e => exact .base (.dK (s _ _ e))
    | dT e => exact .base (.dT (s _ _ e))
    | ins e cl ha hn htk hm => exact .base (.ins (s _ _ e) cl ha hn htk hm)
  | byt b => exact .byt b
  | set e => exact .set (s _ _ e)
  | kList e c => exact .kList e c
  | kTuple e c => exact .kTuple e c
  | kDict e c => exact .kDict e c
  | fTuple e => exact .fTuple (s _ _ e)
  | fDict e => exact .fDict (s _ _ e)
theorem Tp.same {K : PySem.W.Frag} {H H' : Hp} {b : Addr} {n : Nat} {v : V} {o : Option (List V)} (s : Same H H') (h : Tp K H b n v o) : Tp K H' b n v o := by
  cases o with
  | some xs =>
    obtain ⟨a, e, h1, h2, h3⟩ := h
    exact ⟨a, e, Same.sqT s h1, h2, fun x m => (h3 x m).stp (Same.stp s)⟩
  | none =>
    obtain ⟨t, h1, h2⟩ := h
    exact ⟨t, TyX.same s h1, h2⟩
theorem Okv.tp {K : PySem.W.Frag} {H : Hp} {b : Addr} {n : Nat} {v : V} (h : Okv K H b (n + 1) v) : ∃ o, Tp K H b n v o := by
  rcases h with ⟨hf, _⟩ | ⟨a, xs, rfl, _, h | h, hl, hx⟩
  · refine ⟨none, ?_⟩
    cases v with
    | non => exact ⟨_, .base .non, kit_ty (by decide +kernel)⟩
    | bl k => exact ⟨_, .base (.bl k), kit_ty (show kitB "bool" "tuple" = some false by decide +kernel)⟩
    | int i => exact ⟨_, .base (.int i), kit_ty (show kitB "int" "tuple" = some false by decide +kernel)⟩
    | str z => exact ⟨_, .base (.str z), kit_ty (show kitB "str" "tuple" = some false by decide +kernel)⟩
    | _ => cases hf
  · exact ⟨none, _, tyx_l h, kit_ty (by decide +kernel)⟩
  · exact ⟨some xs, a, rfl, h, hl, hx⟩
/-- the word that a tuple begins with -/
def hdS : Option (List V) → Str
  | some (.str u :: _) => u
  | _ => ""
def tlS : Option (List V) → List V
  | some (_ :: r) => r
  | _ => []
def kS : List V → List Str
  | [] => []
  | .str z :: r => z :: kS r
  | _ :: r => kS r
def codeO (o : Option (List V)) : Bool := match findT tb_CODE_ROWS (hdS o) with
  | some ks => fitA (tlS o) (kS ks)
  | none => false
def dataO (o : Option (List V)) : Bool := match findT tb_DATA_ROWS (hdS o) with
  | some ks => fitA (tlS o) (kS ks)
  | none => false
theorem code_kinds {z : Str} {ks : List V} (h : findT tb_CODE_ROWS z = some ks) : ks = kst (kS ks) ∧ (∀ q ∈ kS ks, q ∈ kindsL) ∧ (kS ks).length ≤ 10 ∧ z ≠ "" := by
  unfold findT at h
  cases e : tb_CODE_ROWS.find? (fun p => decide (p.1 = z)) with
  | none => rw [e] at h; cases h
  | some p =>
    rw [e] at h
    have hm := List.mem_of_find?_eq_some e
    have hz : p.1 = z := of_decide_eq_true (List.find?_some (p := fun p : Str × List V => decide (p.1 = z)) e)
    have hk : p.2 = ks := Option.some.inj h
    subst hz hk
    have all : ∀ p ∈ tb_CODE_ROWS, p.2 = kst (kS p.2) ∧ (∀ q ∈ kS p.2, q ∈ kindsL) ∧ (kS p.2).length ≤ 10 ∧ p.1 ≠ "" := by decide +kernel
    exact all p hm
theorem data_kinds {z : Str} {ks : List V} (h : findT tb_DATA_ROWS z = some ks) : ks = kst (kS ks) ∧ (∀ q ∈ kS ks, q ∈ kindsL) ∧ (kS ks).length ≤ 10 ∧ z ≠ "" := by
  unfold findT at h
  cases e : tb_DATA_ROWS.find? (fun p => decide (p.1 = z)) with
  | none => rw [e] at h; cases h
  | some p =>
    rw [e] at h
    have hm := List.mem_of_find?_eq_some e
    have hz : p.1 = z := of_decide_eq_true (List.find?_some (p := fun p : Str × List V => decide (p.1 = z)) e)
    have hk : p.2 = ks := Option.some.inj h
    subst hz hk
    have all : ∀ p ∈ tb_DATA_ROWS, p.2 = kst (kS p.2) ∧ (∀ q ∈ kS p.2, q ∈ kindsL) ∧ (kS p.2).length ≤ 10 ∧ p.1 ≠ "" := by decide +kernel
    exact all p hm
theorem relO_d {α : Type} {R : α → Value → Prop} {v : Option α} {r : Option Value} (h : RelOpt R v r) : r.isSome = v.isSome ∧ ∀ i, v = some i → ∃ u, r = some u ∧ R i u := by
  cases v with
  | none =>
    cases r with
    | none => exact ⟨rfl, fun i e => nomatch e⟩
    | some u => exact h.elim
  | some i =>
    cases r with
    | none => exact h.elim
    | some u => exact ⟨rfl, fun j e => by cases e; exact ⟨u, rfl, h⟩⟩
theorem cut_tl (x : V) (r : List V) : cutV (x :: r) (some 1) none = r := by
  unfold cutV
  rw [show HT.sIx (x :: r).length 0 (some 1) = min 1 (x :: r).length from HT.sIx_nat _ 0 1, HT.sIx_none]
  rw [show min 1 (x :: r).length = 1 by rw [List.length_cons]; omega]
  show (r.take ((x :: r).length - 1)) = r
  rw [List.length_cons, Nat.add_sub_cancel, List.take_length]
section
variable {P : Program} {w : World} {K : PySem.W.Frag} {mg : Str → Option Value} {base : Heap} {Z : Fs}
/-! ### _fits, _fit -/
def sp_fits (K : PySem.W.Frag) : Sp := fun vs H Q _ => ∃ (x : V) (q : Str) (b : Addr) (n : Nat), vs = [x, .str q] ∧ Okv K H b n x ∧ q ∈ kindsL ∧ ∀ H' : Hp, Same H H' → Q (.bl (fitV q x)) H'
theorem ok_fits (T : Txt K w mg Z) : FnOk P w K mg base CX0 2 Z.a_fits Z.d_fits ["item", "kind"] (sp_fits K) := by
  have G_is_register : FnOk P w K mg base CX0 1 Z.a_is_register Z.d_is_register ["value"] (sp_is_register K) := ok_is_register T
  have G_is_name : FnOk P w K mg base CX0 1 Z.a_is_name Z.d_is_name ["value"] (sp_is_name K) := ok_is_name T
  have G_is_number : FnOk P w K mg base CX0 1 Z.a_is_number Z.d_is_number ["value", "least", "most"] (sp_is_number K) := ok_is_number T
  refine T.F_fits.ok sc_fits (fun vs H Q E h => ?_) (fun cdv A outer s H vs Q E hr h => ?_)
  · obtain ⟨x, q, b, n, rfl, _⟩ := h
    rfl
  · obtain ⟨x, q, b, n, rfl, ok, hq, k⟩ := h
    refine ⟨_, (pss_cons (ps_if (pt_cmpR op_eq (pv 1) pe_str (nomark _)) (pss_one (ps_ret (pe_call G_is_register (hr.mono (by omega)) (by rfl) T.m_is_register T.F_is_register.kp T.b_is_register .nil pass0 (pa_cons (pv 0) pa_nil)))) pss_nil)
      (pss_cons (ps_if (pt_cmpR op_eq (pv 1) pe_str (nomark _)) (pss_one (ps_ret (pe_call G_is_name (hr.mono (by omega)) (by rfl) T.m_is_name T.F_is_name.kp T.b_is_name .nil pass0 (pa_cons (pv 0) pa_nil)))) pss_nil)
      (pss_cons (ps_asg (pe_ix ix_kdict (pe_glob (v := .ref Z.c_BOUNDS) (by rfl) T.g_BOUNDS rfl) (pv 1) (fun _ _ => rfl)) (pg_tup (by rfl) (pgs_cons (pg_name (i := 2) sc_fits.nd rfl (Or.inl rfl)) (pgs_cons (pg_name (i := 3) sc_fits.nd rfl (Or.inl rfl)) pgs_nil))))
      (pss_one (ps_ret (pe_call G_is_number (hr.mono (by omega)) (by rfl) T.m_is_number T.F_is_number.kp T.b_is_number .nil pass0 (pa_cons (pv 0) (pa_cons (pv 2) (pa_cons (pv 3) pa_nil))))))))), ?_⟩
    refine ⟨.str q, rfl, rfl, _, rfl, ite2 (fun h1 => ?_) (fun h1 => ?_)⟩
    · have e1 : q = "R" := V.str.inj (of_decide_eq_true h1)
      refine ⟨x, rfl, x, b, n, rfl, ok, fun H' s' => ?_⟩
      have e : fitV q x = regV x := by
        unfold fitV
        rw [if_pos e1]
      rw [← e]
      exact k _ s'
    have e1 : q ≠ "R" := fun e => h1 (decide_eq_true (by rw [e]))
    refine ⟨.str q, rfl, rfl, _, rfl, ite2 (fun h2 => ?_) (fun h2 => ?_)⟩
    · have e2 : q = "N" := V.str.inj (of_decide_eq_true h2)
      refine ⟨x, rfl, x, b, n, rfl, ok, fun H' s' => ?_⟩
      have e : fitV q x = nmV x := by
        unfold fitV
        rw [if_neg e1, if_pos e2]
      rw [← e]
      exact k _ s'
    have e2 : q ≠ "N" := fun e => h2 (decide_eq_true (by rw [e]))
    obtain ⟨r, q1, q2⟩ := T.x_BOUNDS q
    obtain ⟨_, i2⟩ := relO_d q2
    have hb : findT tb_BOUNDS q = some [.int (bnd q).1, .int (bnd q).2] := by
      have all : ∀ q ∈ kindsL, q ≠ "R" → q ≠ "N" → findT tb_BOUNDS q = some [.int (bnd q).1, .int (bnd q).2] := by decide +kernel
      exact all q hq e1 e2
    obtain ⟨u, rfl, t, rfl, ht⟩ := i2 _ hb
    refine ⟨.str q, rfl, _, q, .ref t, rfl, rfl, ⟨_, _, _, T.D_BOUNDS.at_, T.D_BOUNDS.lit, q1, rfl⟩, t, _, rfl, ht H, rfl, _, _, rfl, _, _, rfl, rfl, ?_⟩
    refine ⟨x, rfl, _, rfl, _, rfl, x, _, _, b, n, rfl, ok, fun H' s' => ?_⟩
    have e : fitV q x = numV x (bnd q).1 (bnd q).2 := by
      unfold fitV
      rw [if_neg e1, if_neg e2]
    rw [← e]
    exact k _ s'
def sp_fit (K : PySem.W.Frag) : Sp := fun vs H Q _ => ∃ (a c : Addr) (xs : List V) (ks : List Str) (b : Addr) (n : Nat), vs = [.ref a, .ref c] ∧ SqT K H a xs ∧ SqT K H c (kst ks) ∧ (∀ x ∈ xs, Okv K H b n x) ∧ (∀ q ∈ ks, q ∈ kindsL) ∧ ks.length ≤ 10 ∧ ∀ H' : Hp, Same H H' → Q (.bl (fitA xs ks)) H'
theorem ok_fit (T : Txt K w mg Z) : FnOk P w K mg base CX0 3 Z.a_fit Z.d_fit ["items", "kinds"] (sp_fit K) := by
  have G_fits : FnOk P w K mg base CX0 2 Z.a_fits Z.d_fits ["item", "kind"] (sp_fits K) := ok_fits T
  refine T.F_fit.ok sc_fit (fun vs H Q E h => ?_) (fun cdv A outer s H vs Q E hr h => ?_)
  · obtain ⟨a, c, xs, ks, b, n, rfl, _⟩ := h
    rfl
  · obtain ⟨a, c, xs, ks, b, n, rfl, hx, hc, ok, hk, hl, k⟩ := h
    refine ⟨_, (pss_cons (ps_if (pt_cmpR op_ne (pe_callB call_len (by rfl) T.n_len boot_len (pa_cons (pv 0) pa_nil)) (pe_callB call_len (by rfl) T.n_len boot_len (pa_cons (pv 1) pa_nil)) (nomark _)) (pss_one (ps_ret pe_bl)) pss_nil)
      (pss_one (ps_ret (pe_callB (cr_all rfl) (by rfl) T.n_all boot_all (pa_cons (pe_lc (own := [("item", 2), ("kind", 3)]) (g := gTup K 2 (gCons (gName 2) (gCons (gName 3) gNil))) (tt := tYes) rfl sc_fit.nd (RZ.pi_zipA (by rfl) T.n_zip (pa_cons (pv 0) (pa_cons (pv 1) pa_nil))) (blkOk_by (N := N_fit) (sc := defScope s_fit) (by decide +kernel)) (fun _ _ _ _ _ => pg_tup rfl (pgs_cons (pg_name (i := 2) sc_fit.nd rfl (Or.inl rfl)) (pgs_cons (pg_name (i := 3) sc_fit.nd rfl (Or.inl rfl)) pgs_nil))) (fun _ _ _ _ _ => pts_nil) (fun _ _ _ _ _ => (pe_call G_fits (hr.mono (by omega)) (by rfl) T.m_fits T.F_fits.kp T.b_fits .nil pass0 (pa_cons (pv 2) (pa_cons (pv 3) pa_nil))))) pa_nil))))), ?_⟩
    refine ⟨.ref a, rfl, .ref a, xs.length, rfl, .inr ⟨_, hx, rfl⟩, .ref c, rfl, .ref c, (kst ks).length, rfl, .inr ⟨_, hc, rfl⟩, rfl, _, rfl, ?_⟩
    have lk : (kst ks).length = ks.length := List.length_map ..
    by_cases he : xs.length = ks.length
    · have e0 : (!decide (V.int (xs.length : Int) = V.int ((kst ks).length : Int))) = false := by simp [lk, he]
      rw [e0]
      refine iteF ⟨.ref a, rfl, .ref c, rfl, a, c, xs, kst ks, rfl, .inr ⟨hx, hc, fun D hD => ?_⟩⟩
      refine lc_it (walk_zipT (K := K) (xs := xs) (ys := kst ks) (n := xs.length) (by omega)) (fun i H' => Same H H' ∧ H' D = some (.lst (((List.zipWith fitV ks xs).take i).map V.bl))) ⟨Same.new hD, upd_same⟩ (fun i H' _ q => ⟨Same.sqT q.1 hx, Same.sqT q.1 hc⟩) ?_ ?_
      · rintro i v H2 H3 hi' ⟨s2, e2⟩ ⟨T', u, t, rfl, hT, rfl, hu, ht⟩
        obtain ⟨q, hq, rfl⟩ : ∃ q, ks[i]? = some q ∧ t = .str q := by
          have ht : (kst ks)[i]? = some t := ht
          unfold kst at ht
          rw [List.getElem?_map] at ht
          cases e : ks[i]? with
          | none => rw [e] at ht; cases ht
          | some q => rw [e] at ht; exact ⟨q, rfl, (Option.some.inj ht).symm⟩
        have hu : xs[i]? = some u := hu
        refine ⟨T', [u, .str q], rfl, SqT.of upd_same, rfl, u, [.str q], rfl, .str q, [], rfl, rfl, rfl, u, rfl, .str q, rfl, u, q, b, n, rfl, ((ok u (List.mem_of_getElem? hu)).stp (Same.stp s2)).stp (Stp.new hT), hk q (List.mem_of_getElem? hq), fun H4 s4 => ?_⟩
        have nDT : D ≠ T' := ne_of_none e2 hT
        refine ⟨_, s4 _ _ (by rw [upd_ne nDT]; exact e2), ?_, Same.put ((s2.trans (Same.new hT)).trans s4) hD, ?_⟩
        · rw [List.length_map, List.length_take]
          exact Nat.lt_of_le_of_lt (Nat.min_le_left _ _) (Nat.lt_of_lt_of_le hi' (Nat.le_trans (show xs.length ≤ 10 by omega) (by decide)))
        · have hz : (List.zipWith fitV ks xs)[i]? = some (fitV q u) := by
            rw [List.getElem?_zipWith, hq, hu]
          rw [upd_same, List.take_add_one, hz, List.map_append]
          rfl
      · rintro H' ⟨s2, e2⟩
        refine ⟨D, _, rfl, SqL.of e2, ?_⟩
        have e : ((List.zipWith fitV ks xs).take xs.length).all id = fitA xs ks := by
          rw [List.take_of_length_le (by rw [List.length_zipWith]; omega)]
          unfold fitA
          rw [decide_eq_true he, Bool.true_and]
        rw [e]
        exact k _ s2
    · have e0 : (!decide (V.int (xs.length : Int) = V.int ((kst ks).length : Int))) = true := by
        rw [lk]
        simp
        omega
      rw [e0]
      refine iteT ?_
      have e : fitA xs ks = false := by
        unfold fitA
        rw [decide_eq_false he, Bool.false_and]
      show Q (.bl false) H
      rw [← e]
      exact k _ (Same.refl _)
/-! ### _word_of, is_code_row, is_data_row -/
def sp_word_of (K : PySem.W.Frag) : Sp := fun vs H Q _ => ∃ (v : V) (b : Addr) (n : Nat) (o : Option (List V)), vs = [v] ∧ Tp K H b n v o ∧ ∀ H' : Hp, Same H H' → Q (.str (hdS o)) H'
theorem ok_word_of (T : Txt K w mg Z) : FnOk P w K mg base CX0 1 Z.a_word_of Z.d_word_of ["value"] (sp_word_of K) := by
  refine T.F_word_of.ok sc_word_of (fun vs H Q E h => ?_) (fun cdv A outer s H vs Q E hr h => ?_)
  · obtain ⟨v, b, n, o, rfl, _⟩ := h
    rfl
  · obtain ⟨v, b, n, o, rfl, tp, k⟩ := h
    refine ⟨_, (pss_cons (ps_if (PW.pt (pw_and (pt_val (pe_callB call_isi (by rfl) T.n_isinstance boot_isinstance (pa_cons (pv 0) (pa_cons (pe_bltn (v := .ty "tuple") (by rfl) T.n_tuple boot_tuple rfl) pa_nil)))) (pw_and (pt_cmpR op_gt (pe_callB call_len (by rfl) T.n_len boot_len (pa_cons (pv 0) pa_nil)) pe_int (nomark _)) (pw_and1 (pt_val (pe_callB call_isi (by rfl) T.n_isinstance boot_isinstance (pa_cons (pe_ix ix_tup (pv 0) pe_int (fun _ _ => rfl)) (pa_cons (pe_bltn (v := .ty "str") (by rfl) T.n_str boot_str rfl) pa_nil)))))))) (pss_one (ps_ret (pe_ix ix_tup (pv 0) pe_int (fun _ _ => rfl)))) pss_nil)
      (pss_one (ps_ret pe_str))), ?_⟩
    cases o with
    | none =>
      obtain ⟨t, ty, kt⟩ := tp
      exact ⟨v, rfl, v, .ty "tuple", t, _, _, rfl, .ty _, ty, kt, _, rfl, iteF (iteF (k _ (Same.refl _)))⟩
    | some xs =>
      obtain ⟨a, rfl, hx, hl, ok⟩ := tp
      refine ⟨.ref a, rfl, .ref a, .ty "tuple", _, _, true, rfl, .ty _, tyx_t hx, kit_ty (by decide +kernel), _, rfl, iteT ?_⟩
      refine ⟨.ref a, rfl, .ref a, xs.length, rfl, .inr ⟨_, hx, rfl⟩, _, _, rfl, rfl, _, rfl, ?_⟩
      cases xs with
      | nil => exact iteF (iteF (k _ (Same.refl _)))
      | cons x r =>
        refine iteY (by simp) ?_
        obtain ⟨t, ty, kS', _, _⟩ := (ok x (List.mem_cons_self ..)).ty
        refine ⟨.ref a, rfl, a, _, 0, x, rfl, rfl, hx, atI_nat (j := 0) rfl, x, .ty "str", t, _, _, rfl, .ty _, ty, kS', _, rfl, ?_⟩
        cases hv : isS x with
        | true =>
          obtain ⟨z, rfl⟩ := isS_of hv
          exact iteT ⟨.ref a, rfl, a, _, 0, .str z, rfl, rfl, hx, atI_nat (j := 0) rfl, k _ (Same.refl _)⟩
        | false =>
          refine iteF ?_
          have e : hdS (some (x :: r)) = "" := by
            cases x with
            | str z => cases hv
            | _ => rfl
          show Q (.str "") H
          rw [← e]
          exact k _ (Same.refl _)
def sp_is_code_row (K : PySem.W.Frag) : Sp := fun vs H Q _ => ∃ (v : V) (b : Addr) (n : Nat) (o : Option (List V)), vs = [v] ∧ Tp K H b n v o ∧ ∀ H' : Hp, Same H H' → Q (.bl (codeO o)) H'
theorem hd_some {o : Option (List V)} (h : hdS o ≠ "") : ∃ r, o = some (.str (hdS o) :: r) ∧ tlS o = r := by
  match o, h with
  | some (.str u :: r), _ => exact ⟨r, rfl, rfl⟩
  | some [], h => exact absurd rfl h
  | none, h => exact absurd rfl h
  | some (.non :: _), h => exact absurd rfl h
  | some (.bl _ :: _), h => exact absurd rfl h
  | some (.int _ :: _), h => exact absurd rfl h
  | some (.byt _ :: _), h => exact absurd rfl h
  | some (.flt _ :: _), h => exact absurd rfl h
  | some (.ref _ :: _), h => exact absurd rfl h
  | some (.ty _ :: _), h => exact absurd rfl h
theorem ok_is_code_row (T : Txt K w mg Z) : FnOk P w K mg base CX0 4 Z.a_is_code_row Z.d_is_code_row ["value"] (sp_is_code_row K) := by
  have G_word_of : FnOk P w K mg base CX0 1 Z.a_word_of Z.d_word_of ["value"] (sp_word_of K) := ok_word_of T
  have G_fit : FnOk P w K mg base CX0 3 Z.a_fit Z.d_fit ["items", "kinds"] (sp_fit K) := ok_fit T
  refine T.F_is_code_row.ok sc_is_code_row (fun vs H Q E h => ?_) (fun cdv A outer s H vs Q E hr h => ?_)
  · obtain ⟨v, b, n, o, rfl, _⟩ := h
    rfl
  · obtain ⟨v, b, n, o, rfl, tp, k⟩ := h
    refine ⟨_, (pss_cons (ps_set (i := 1) sc_is_code_row.nd rfl (Or.inl rfl) (pe_call G_word_of (hr.mono (by omega)) (by rfl) T.m_word_of T.F_word_of.kp T.b_word_of .nil pass0 (pa_cons (pv 0) pa_nil)))
      (pss_one (ps_ret (pe_and (pe_cmpR (op_in_kd T.D_CODE_ROWS) (pv 1) (pe_glob (v := .ref Z.c_CODE_ROWS) (by rfl) T.g_CODE_ROWS rfl) (by rfl)) (pe_one (pe_call G_fit (hr.mono (by omega)) (by rfl) T.m_fit T.F_fit.kp T.b_fit .nil pass0 (pa_cons (pe_slice sl_tup (pv 0) (po_some pe_int) po_none) (pa_cons (pe_ix ix_kdict (pe_glob (v := .ref Z.c_CODE_ROWS) (by rfl) T.g_CODE_ROWS rfl) (pv 1) (fun _ _ => rfl)) pa_nil)))))))), ?_⟩
    refine ⟨v, rfl, v, b, n, o, rfl, tp, fun H1 s1 => ?_⟩
    obtain ⟨r, q1, q2⟩ := T.x_CODE_ROWS (hdS o)
    obtain ⟨i1, i2⟩ := relO_d q2
    refine ⟨_, rfl, _, r, rfl, rfl, q1, _, rfl, ?_⟩
    rw [i1]
    cases hf : findT tb_CODE_ROWS (hdS o) with
    | none =>
      refine iteF ?_
      have e : codeO o = false := by
        unfold codeO
        rw [hf]
      rw [← e]
      exact k _ s1
    | some ks =>
      refine iteT ?_
      obtain ⟨c1, c2, c3, c4⟩ := code_kinds hf
      obtain ⟨rr, ho, htl⟩ := hd_some c4
      obtain ⟨u, rfl, t, rfl, ht⟩ := i2 _ hf
      rw [ho] at tp
      obtain ⟨a, rfl, hx, hl, ok⟩ := tp
      refine ⟨.ref a, rfl, 1, rfl, a, _, rfl, Same.sqT s1 hx, ?_, fun p hp => ?_⟩
      · rintro ⟨z, _⟩
        rw [show HT.sIx (V.str (hdS o) :: rr).length 0 (some 1) = min 1 (V.str (hdS o) :: rr).length from HT.sIx_nat _ 0 1, List.length_cons] at z
        omega
      · rw [cut_tl]
        have s2 : Same H1 (upd H1 p (.tup rr)) := Same.new hp
        have e2 : (upd H1 p (.tup rr)) p = some (.tup rr) := upd_same
        generalize upd H1 p (.tup rr) = H2 at s2 e2 ⊢
        refine ⟨_, rfl, _, hdS o, .ref t, rfl, rfl, ⟨_, _, _, T.D_CODE_ROWS.at_, T.D_CODE_ROWS.lit, q1, rfl⟩, p, t, rr, kS ks, b, n, rfl, SqT.of e2, (by rw [← c1]; exact ht H2), fun x m => ((ok x (List.mem_cons_of_mem _ m)).stp (Same.stp s1)).stp (Same.stp s2), c2, c3, fun H3 s3 => ?_⟩
        have e : codeO o = fitA rr (kS ks) := by
          unfold codeO
          rw [hf, htl]
        rw [← e]
        exact k _ ((s1.trans s2).trans s3)
def sp_is_data_row (K : PySem.W.Frag) : Sp := fun vs H Q _ => ∃ (v : V) (b : Addr) (n : Nat) (o : Option (List V)), vs = [v] ∧ Tp K H b n v o ∧ ∀ H' : Hp, Same H H' → Q (.bl (dataO o)) H'
theorem ok_is_data_row (T : Txt K w mg Z) : FnOk P w K mg base CX0 4 Z.a_is_data_row Z.d_is_data_row ["value"] (sp_is_data_row K) := by
  have G_word_of : FnOk P w K mg base CX0 1 Z.a_word_of Z.d_word_of ["value"] (sp_word_of K) := ok_word_of T
  have G_fit : FnOk P w K mg base CX0 3 Z.a_fit Z.d_fit ["items", "kinds"] (sp_fit K) := ok_fit T
  refine T.F_is_data_row.ok sc_is_data_row (fun vs H Q E h => ?_) (fun cdv A outer s H vs Q E hr h => ?_)
  · obtain ⟨v, b, n, o, rfl, _⟩ := h
    rfl
  · obtain ⟨v, b, n, o, rfl, tp, k⟩ := h
    refine ⟨_, (pss_cons (ps_set (i := 1) sc_is_data_row.nd rfl (Or.inl rfl) (pe_call G_word_of (hr.mono (by omega)) (by rfl) T.m_word_of T.F_word_of.kp T.b_word_of .nil pass0 (pa_cons (pv 0) pa_nil)))
      (pss_one (ps_ret (pe_and (pe_cmpR (op_in_kd T.D_DATA_ROWS) (pv 1) (pe_glob (v := .ref Z.c_DATA_ROWS) (by rfl) T.g_DATA_ROWS rfl) (by rfl)) (pe_one (pe_call G_fit (hr.mono (by omega)) (by rfl) T.m_fit T.F_fit.kp T.b_fit .nil pass0 (pa_cons (pe_slice sl_tup (pv 0) (po_some pe_int) po_none) (pa_cons (pe_ix ix_kdict (pe_glob (v := .ref Z.c_DATA_ROWS) (by rfl) T.g_DATA_ROWS rfl) (pv 1) (fun _ _ => rfl)) pa_nil)))))))), ?_⟩
    refine ⟨v, rfl, v, b, n, o, rfl, tp, fun H1 s1 => ?_⟩
    obtain ⟨r, q1, q2⟩ := T.x_DATA_ROWS (hdS o)
    obtain ⟨i1, i2⟩ := relO_d q2
    refine ⟨_, rfl, _, r, rfl, rfl, q1, _, rfl, ?_⟩
    rw [i1]
    cases hf : findT tb_DATA_ROWS (hdS o) with
    | none =>
      refine iteF ?_
      have e : dataO o = false := by
        unfold dataO
        rw [hf]
      rw [← e]
      exact k _ s1
    | some ks =>
      refine iteT ?_
      obtain ⟨c1, c2, c3, c4⟩ := data_kinds hf
      obtain ⟨rr, ho, htl⟩ := hd_some c4
      obtain ⟨u, rfl, t, rfl, ht⟩ := i2 _ hf
      rw [ho] at tp
      obtain ⟨a, rfl, hx, hl, ok⟩ := tp
      refine ⟨.ref a, rfl, 1, rfl, a, _, rfl, Same.sqT s1 hx, ?_, fun p hp => ?_⟩
      · rintro ⟨z, _⟩
        rw [show HT.sIx (V.str (hdS o) :: rr).length 0 (some 1) = min 1 (V.str (hdS o) :: rr).length from HT.sIx_nat _ 0 1, List.length_cons] at z
        omega
      · rw [cut_tl]
        have s2 : Same H1 (upd H1 p (.tup rr)) := Same.new hp
        have e2 : (upd H1 p (.tup rr)) p = some (.tup rr) := upd_same
        generalize upd H1 p (.tup rr) = H2 at s2 e2 ⊢
        refine ⟨_, rfl, _, hdS o, .ref t, rfl, rfl, ⟨_, _, _, T.D_DATA_ROWS.at_, T.D_DATA_ROWS.lit, q1, rfl⟩, p, t, rr, kS ks, b, n, rfl, SqT.of e2, (by rw [← c1]; exact ht H2), fun x m => ((ok x (List.mem_cons_of_mem _ m)).stp (Same.stp s1)).stp (Same.stp s2), c2, c3, fun H3 s3 => ?_⟩
        have e : dataO o = fitA rr (kS ks) := by
          unfold dataO
          rw [hf, htl]
        rw [← e]
        exact k _ ((s1.trans s2).trans s3)
end

/-! ### the law's own judgement of rows -/
theorem fitV_R (x : V) : fitV "R" x = regV x := by
  unfold fitV
  rw [if_pos rfl]
theorem fitV_N (x : V) : fitV "N" x = nmV x := by
  unfold fitV
  rw [if_neg (by decide +kernel), if_pos rfl]
theorem fitV_num {q : Str} (x : V) (h1 : q ≠ "R") (h2 : q ≠ "N") : fitV q x = numV x (bnd q).1 (bnd q).2 := by
  unfold fitV
  rw [if_neg h1, if_neg h2]
theorem fitA_0 (r : List V) : fitA r [] = decide (r.length = 0) := by
  unfold fitA
  simp
theorem fitA_1 (q : Str) (r : List V) : fitA r [q] = (decide (r.length = 1) && fitV q (r.getD 0 .non)) := by
  match r with
  | [] => rfl
  | [x] => simp [fitA]
  | x :: y :: t => simp [fitA]
theorem fitA_2 (q s : Str) (r : List V) : fitA r [q, s] = (decide (r.length = 2) && (fitV q (r.getD 0 .non) && fitV s (r.getD 1 .non))) := by
  match r with
  | [] => rfl
  | [x] => rfl
  | [x, y] => simp [fitA]
  | x :: y :: z :: t => simp [fitA]
theorem fitA_3 (q s t : Str) (r : List V) : fitA r [q, s, t] = (decide (r.length = 3) && (fitV q (r.getD 0 .non) && (fitV s (r.getD 1 .non) && fitV t (r.getD 2 .non)))) := by
  match r with
  | [] => rfl
  | [x] => rfl
  | [x, y] => rfl
  | [x, y, z] => simp [fitA]
  | x :: y :: z :: a :: l => simp [fitA]
theorem codeO_of {u : Str} {r : List V} {ks : List V} (h : findT tb_CODE_ROWS u = some ks) : codeO (some (.str u :: r)) = fitA r (kS ks) := by
  show (match findT tb_CODE_ROWS u with | some ks => fitA r (kS ks) | none => false) = _
  rw [h]
theorem codeO_no {u : Str} {r : List V} (h : findT tb_CODE_ROWS u = none) : codeO (some (.str u :: r)) = false := by
  show (match findT tb_CODE_ROWS u with | some ks => fitA r (kS ks) | none => false) = _
  rw [h]
theorem dataO_of {u : Str} {r : List V} {ks : List V} (h : findT tb_DATA_ROWS u = some ks) : dataO (some (.str u :: r)) = fitA r (kS ks) := by
  show (match findT tb_DATA_ROWS u with | some ks => fitA r (kS ks) | none => false) = _
  rw [h]
theorem dataO_no {u : Str} {r : List V} (h : findT tb_DATA_ROWS u = none) : dataO (some (.str u :: r)) = false := by
  show (match findT tb_DATA_ROWS u with | some ks => fitA r (kS ks) | none => false) = _
  rw [h]
theorem findT_no {α : Type} (l : List (Str × α)) (u : Str) (h : u ∉ l.map (·.1)) : findT l u = none := by
  unfold findT
  rw [List.find?_eq_none.mpr (fun x hx z => h (List.mem_map.mpr ⟨x, hx, of_decide_eq_true z⟩))]
  rfl
theorem cls0 : ∀ u : Str, u ∈ tb_CODE_ROWS.map (·.1) → (u = "back" ∨ u = "halt") ∨ u = "room" ∨ (u = "jump" ∨ u = "call") ∨ (u = "callby" ∨ u = "out") ∨ (u = "name" ∨ u = "ifzero") ∨ u = "put" ∨ (u = "add" ∨ u = "take") ∨ (u = "load" ∨ u = "store") := by
  have h : ∀ u ∈ tb_CODE_ROWS.map (fun p : Str × List V => p.1), (u = Str.ofString "back" ∨ u = Str.ofString "halt") ∨ u = Str.ofString "room" ∨ (u = Str.ofString "jump" ∨ u = Str.ofString "call") ∨ (u = Str.ofString "callby" ∨ u = Str.ofString "out") ∨ (u = Str.ofString "name" ∨ u = Str.ofString "ifzero") ∨ u = Str.ofString "put" ∨ (u = Str.ofString "add" ∨ u = Str.ofString "take") ∨ (u = Str.ofString "load" ∨ u = Str.ofString "store") := by
    decide +kernel
  exact h
theorem cls (u : Str) : (u = "back" ∨ u = "halt") ∨ u = "room" ∨ (u = "jump" ∨ u = "call") ∨ (u = "callby" ∨ u = "out") ∨ (u = "name" ∨ u = "ifzero") ∨ u = "put" ∨ (u = "add" ∨ u = "take") ∨ (u = "load" ∨ u = "store") ∨ findT tb_CODE_ROWS u = none := by
  by_cases h : u ∈ tb_CODE_ROWS.map (·.1)
  · rcases cls0 u h with c | c | c | c | c | c | c | c
    · exact .inl c
    · exact .inr (.inl c)
    · exact .inr (.inr (.inl c))
    · exact .inr (.inr (.inr (.inl c)))
    · exact .inr (.inr (.inr (.inr (.inl c))))
    · exact .inr (.inr (.inr (.inr (.inr (.inl c)))))
    · exact .inr (.inr (.inr (.inr (.inr (.inr (.inl c))))))
    · exact .inr (.inr (.inr (.inr (.inr (.inr (.inr (.inl c)))))))
  · exact .inr (.inr (.inr (.inr (.inr (.inr (.inr (.inr (findT_no _ _ h))))))))
theorem clsD0 : ∀ u : Str, u ∈ tb_DATA_ROWS.map (·.1) → u = "word" ∨ u = "address" ∨ u = "room" := by
  have h : ∀ u ∈ tb_DATA_ROWS.map (fun p : Str × List V => p.1), u = Str.ofString "word" ∨ u = Str.ofString "address" ∨ u = Str.ofString "room" := by
    decide +kernel
  exact h
theorem clsD (u : Str) : u = "word" ∨ u = "address" ∨ u = "room" ∨ findT tb_DATA_ROWS u = none := by
  by_cases h : u ∈ tb_DATA_ROWS.map (·.1)
  · rcases clsD0 u h with c | c | c
    · exact .inl c
    · exact .inr (.inl c)
    · exact .inr (.inr (.inl c))
  · exact .inr (.inr (.inr (findT_no _ _ h)))
theorem in2 {u a b : Str} : inV (.str u) [.str a, .str b] = true ↔ (u = a ∨ u = b) := by
  show ((a == u) || ((b == u) || false)) = true ↔ _
  rw [Bool.or_false, Bool.or_eq_true, beq_iff_eq, beq_iff_eq]
  exact ⟨fun h => h.imp Eq.symm Eq.symm, fun h => h.imp Eq.symm Eq.symm⟩
theorem in2f {u a b : Str} : inV (.str u) [.str a, .str b] = false ↔ ¬ (u = a ∨ u = b) := by
  rw [← in2, Bool.not_eq_true]
section
theorem co_0 {u : Str} {r : List V} (h : u = "back" ∨ u = "halt") : codeO (some (.str u :: r)) = decide (r.length = 0) := by
  rcases h with rfl | rfl
  · exact (codeO_of (ks := []) (by decide +kernel)).trans (fitA_0 r)
  · exact (codeO_of (ks := []) (by decide +kernel)).trans (fitA_0 r)
theorem co_room {r : List V} : codeO (some (.str "room" :: r)) = (decide (r.length = 1) && numV (r.getD 0 .non) 1 120) := by
  rw [codeO_of (ks := kst ["k"]) (by decide +kernel)]
  show fitA r ["k"] = _
  rw [fitA_1, fitV_num _ (by decide +kernel) (by decide +kernel)]
  rfl
theorem co_N {u : Str} {r : List V} (h : u = "jump" ∨ u = "call") : codeO (some (.str u :: r)) = (decide (r.length = 1) && nmV (r.getD 0 .non)) := by
  have e : codeO (some (.str u :: r)) = fitA r ["N"] := by
    rcases h with rfl | rfl
    · exact codeO_of (ks := kst ["N"]) (by decide +kernel)
    · exact codeO_of (ks := kst ["N"]) (by decide +kernel)
  rw [e, fitA_1, fitV_N]
theorem co_R {u : Str} {r : List V} (h : u = "callby" ∨ u = "out") : codeO (some (.str u :: r)) = (decide (r.length = 1) && regV (r.getD 0 .non)) := by
  have e : codeO (some (.str u :: r)) = fitA r ["R"] := by
    rcases h with rfl | rfl
    · exact codeO_of (ks := kst ["R"]) (by decide +kernel)
    · exact codeO_of (ks := kst ["R"]) (by decide +kernel)
  rw [e, fitA_1, fitV_R]
theorem co_RN {u : Str} {r : List V} (h : u = "name" ∨ u = "ifzero") : codeO (some (.str u :: r)) = (decide (r.length = 2) && (regV (r.getD 0 .non) && nmV (r.getD 1 .non))) := by
  have e : codeO (some (.str u :: r)) = fitA r ["R", "N"] := by
    rcases h with rfl | rfl
    · exact codeO_of (ks := kst ["R", "N"]) (by decide +kernel)
    · exact codeO_of (ks := kst ["R", "N"]) (by decide +kernel)
  rw [e, fitA_2, fitV_R, fitV_N]
theorem co_put {r : List V} : codeO (some (.str "put" :: r)) = (decide (r.length = 2) && (regV (r.getD 0 .non) && numV (r.getD 1 .non) 0 65535)) := by
  have e : codeO (some (.str "put" :: r)) = fitA r ["R", "n"] := codeO_of (ks := kst ["R", "n"]) (by decide +kernel)
  rw [e, fitA_2, fitV_R, fitV_num _ (by decide +kernel) (by decide +kernel)]
  rfl
theorem co_RR {u : Str} {r : List V} (h : u = "add" ∨ u = "take") : codeO (some (.str u :: r)) = (decide (r.length = 2) && (regV (r.getD 0 .non) && regV (r.getD 1 .non))) := by
  have e : codeO (some (.str u :: r)) = fitA r ["R", "R"] := by
    rcases h with rfl | rfl
    · exact codeO_of (ks := kst ["R", "R"]) (by decide +kernel)
    · exact codeO_of (ks := kst ["R", "R"]) (by decide +kernel)
  rw [e, fitA_2, fitV_R, fitV_R]
theorem co_RRd {u : Str} {r : List V} (h : u = "load" ∨ u = "store") : codeO (some (.str u :: r)) = (decide (r.length = 3) && (regV (r.getD 0 .non) && (regV (r.getD 1 .non) && numV (r.getD 2 .non) 0 15))) := by
  have e : codeO (some (.str u :: r)) = fitA r ["R", "R", "d"] := by
    rcases h with rfl | rfl
    · exact codeO_of (ks := kst ["R", "R", "d"]) (by decide +kernel)
    · exact codeO_of (ks := kst ["R", "R", "d"]) (by decide +kernel)
  rw [e, fitA_3, fitV_R, fitV_R, fitV_num _ (by decide +kernel) (by decide +kernel)]
  rfl
theorem da_word {r : List V} : dataO (some (.str "word" :: r)) = (decide (r.length = 1) && numV (r.getD 0 .non) 0 65535) := by
  have e : dataO (some (.str "word" :: r)) = fitA r ["n"] := dataO_of (ks := kst ["n"]) (by decide +kernel)
  rw [e, fitA_1, fitV_num _ (by decide +kernel) (by decide +kernel)]
  rfl
theorem da_addr {r : List V} : dataO (some (.str "address" :: r)) = (decide (r.length = 1) && nmV (r.getD 0 .non)) := by
  have e : dataO (some (.str "address" :: r)) = fitA r ["N"] := dataO_of (ks := kst ["N"]) (by decide +kernel)
  rw [e, fitA_1, fitV_N]
theorem da_room {r : List V} : dataO (some (.str "room" :: r)) = (decide (r.length = 1) && numV (r.getD 0 .non) 1 120) := by
  have e : dataO (some (.str "room" :: r)) = fitA r ["k"] := dataO_of (ks := kst ["k"]) (by decide +kernel)
  rw [e, fitA_1, fitV_num _ (by decide +kernel) (by decide +kernel)]
  rfl
/-- what is no row for want of a first register -/
theorem co_no0 {u : Str} {r : List V} (n1 : ¬ (u = "back" ∨ u = "halt")) (n2 : u ≠ "room") (n3 : ¬ (u = "jump" ∨ u = "call")) (h : regV (r.getD 0 .non) = false) : codeO (some (.str u :: r)) = false := by
  rcases cls u with c | c | c | c | c | c | c | c | c
  · exact absurd c n1
  · exact absurd c n2
  · exact absurd c n3
  · rw [co_R c, h, Bool.and_false]
  · rw [co_RN c, h, Bool.false_and, Bool.and_false]
  · subst c
    rw [co_put, h, Bool.false_and, Bool.and_false]
  · rw [co_RR c, h, Bool.false_and, Bool.and_false]
  · rw [co_RRd c, h, Bool.false_and, Bool.and_false]
  · exact codeO_no c
theorem co_no1 {u : Str} {r : List V} (n1 : ¬ (u = "back" ∨ u = "halt")) (n2 : u ≠ "room") (n3 : ¬ (u = "jump" ∨ u = "call")) (n4 : ¬ (u = "callby" ∨ u = "out")) (n5 : ¬ (u = "name" ∨ u = "ifzero")) (n6 : u ≠ "put") (h : regV (r.getD 1 .non) = false) : codeO (some (.str u :: r)) = false := by
  rcases cls u with c | c | c | c | c | c | c | c | c
  · exact absurd c n1
  · exact absurd c n2
  · exact absurd c n3
  · exact absurd c n4
  · exact absurd c n5
  · exact absurd c n6
  · rw [co_RR c, h, Bool.and_false, Bool.and_false]
  · rw [co_RRd c, h, Bool.false_and, Bool.and_false, Bool.and_false]
  · exact codeO_no c
variable {P : Program} {w : World} {K : PySem.W.Frag} {mg : Str → Option Value} {base : Heap} {Z : Fs}
theorem getD_at {r : List V} {i : Nat} (h : i < r.length) : atI r (i : Int) = some (r.getD i .non) ∧ r.getD i .non ∈ r := by
  have e : r.getD i .non = r[i] := by rw [List.getD_eq_getElem?_getD, List.getElem?_eq_getElem h]; rfl
  rw [e]
  exact ⟨atI_nat (List.getElem?_eq_getElem h), List.getElem_mem h⟩
theorem reg_none : regV .non = false := rfl
theorem ok_law_code_so (T : Txt K w mg Z) : FnOk P w K mg base CX0 2 Z.a_law_code_so Z.d_law_code_so ["_law_thing"] (sp_is_code_row K) := by
  have G_law_is_title : FnOk P w K mg base CX0 1 Z.a_law_is_title Z.d_law_is_title ["_law_thing"] (sp_law_is_title K) := ok_law_is_title T
  have G_law_within : FnOk P w K mg base CX0 1 Z.a_law_within Z.d_law_within ["_law_thing", "_law_low_y", "_law_high_y"] (sp_law_within K) := ok_law_within T
  refine T.F_law_code_so.ok sc_law_code_so (fun vs H Q E h => ?_) (fun cdv A outer s H vs Q E hr h => ?_)
  · obtain ⟨v, b, n, o, rfl, _⟩ := h
    rfl
  · obtain ⟨v, b, n, o, rfl, tp, k⟩ := h
    refine ⟨_, (pss_cons (ps_if (PW.pt (pw_or (pt_not (pt_val (pe_callB call_isi (by rfl) T.n_isinstance boot_isinstance (pa_cons (pv 0) (pa_cons (pe_bltn (v := .ty "tuple") (by rfl) T.n_tuple boot_tuple rfl) pa_nil))))) (pw_or (pt_cmpR op_eq (pe_callB call_len (by rfl) T.n_len boot_len (pa_cons (pv 0) pa_nil)) pe_int (nomark _)) (pw_or1 (pt_not (pt_val (pe_callB call_isi (by rfl) T.n_isinstance boot_isinstance (pa_cons (pe_ix ix_tup (pv 0) pe_int (fun _ _ => rfl)) (pa_cons (pe_bltn (v := .ty "str") (by rfl) T.n_str boot_str rfl) pa_nil))))))))) (pss_one (ps_ret pe_bl)) pss_nil)
      (pss_cons (ps_par (i := 1) (j := 2) (by rfl) sc_law_code_so.nd rfl rfl (by decide) rfl rfl (pa_cons (pe_ix ix_tup (pv 0) pe_int (fun _ _ => rfl)) (pa_cons (pe_callTy call_list_of (by rfl) T.n_list boot_list (pa_cons (pe_slice sl_tup (pv 0) (po_some pe_int) po_none) pa_nil)) pa_nil)) (by rfl))
      (pss_cons (ps_if (pt_cmpR (op_in_seq : OpR _ _ (rIn K false)) (pv 1) (pe_tup (pa_cons pe_str (pa_cons pe_str pa_nil))) (by rfl)) (pss_one (ps_ret (pe_cmpR op_eq (pe_callB call_len (by rfl) T.n_len boot_len (pa_cons (pv 2) pa_nil)) pe_int (nomark _)))) pss_nil)
      (pss_cons (ps_if (pt_cmpR op_eq (pv 1) pe_str (nomark _)) (pss_one (ps_ret (pe_and (pe_cmpR op_eq (pe_callB call_len (by rfl) T.n_len boot_len (pa_cons (pv 2) pa_nil)) pe_int (nomark _)) (pe_one (pe_call G_law_within (hr.mono (by omega)) (by rfl) T.m_law_within T.F_law_within.kp T.b_law_within .nil pass0 (pa_cons (pe_ix ix_list (pv 2) pe_int (fun _ _ => rfl)) (pa_cons pe_int (pa_cons pe_int pa_nil)))))))) pss_nil)
      (pss_cons (ps_if (pt_cmpR (op_in_seq : OpR _ _ (rIn K false)) (pv 1) (pe_tup (pa_cons pe_str (pa_cons pe_str pa_nil))) (by rfl)) (pss_one (ps_ret (pe_and (pe_cmpR op_eq (pe_callB call_len (by rfl) T.n_len boot_len (pa_cons (pv 2) pa_nil)) pe_int (nomark _)) (pe_one (pe_call G_law_is_title (hr.mono (by omega)) (by rfl) T.m_law_is_title T.F_law_is_title.kp T.b_law_is_title .nil pass0 (pa_cons (pe_ix ix_list (pv 2) pe_int (fun _ _ => rfl)) pa_nil)))))) pss_nil)
      (pss_cons (ps_if (PW.pt (pw_or (pt_cmpR op_eq (pe_callB call_len (by rfl) T.n_len boot_len (pa_cons (pv 2) pa_nil)) pe_int (nomark _)) (pw_or (pt_not (pt_val (pe_callB call_isi (by rfl) T.n_isinstance boot_isinstance (pa_cons (pe_ix ix_list (pv 2) pe_int (fun _ _ => rfl)) (pa_cons (pe_bltn (v := .ty "str") (by rfl) T.n_str boot_str rfl) pa_nil))))) (pw_or1 (pt_cmpR op_notIn_seq (pe_ix ix_list (pv 2) pe_int (fun _ _ => rfl)) (pe_lst (pa_cons pe_str (pa_cons pe_str (pa_cons pe_str pa_nil)))) (by rfl)))))) (pss_one (ps_ret pe_bl)) pss_nil)
      (pss_cons (ps_if (pt_cmpR (op_in_seq : OpR _ _ (rIn K false)) (pv 1) (pe_tup (pa_cons pe_str (pa_cons pe_str pa_nil))) (by rfl)) (pss_one (ps_ret (pe_cmpR op_eq (pe_callB call_len (by rfl) T.n_len boot_len (pa_cons (pv 2) pa_nil)) pe_int (nomark _)))) pss_nil)
      (pss_cons (ps_if (pt_cmpR (op_in_seq : OpR _ _ (rIn K false)) (pv 1) (pe_tup (pa_cons pe_str (pa_cons pe_str pa_nil))) (by rfl)) (pss_one (ps_ret (pe_and (pe_cmpR op_eq (pe_callB call_len (by rfl) T.n_len boot_len (pa_cons (pv 2) pa_nil)) pe_int (nomark _)) (pe_one (pe_call G_law_is_title (hr.mono (by omega)) (by rfl) T.m_law_is_title T.F_law_is_title.kp T.b_law_is_title .nil pass0 (pa_cons (pe_ix ix_list (pv 2) pe_int (fun _ _ => rfl)) pa_nil)))))) pss_nil)
      (pss_cons (ps_if (pt_cmpR op_eq (pv 1) pe_str (nomark _)) (pss_one (ps_ret (pe_and (pe_cmpR op_eq (pe_callB call_len (by rfl) T.n_len boot_len (pa_cons (pv 2) pa_nil)) pe_int (nomark _)) (pe_one (pe_call G_law_within (hr.mono (by omega)) (by rfl) T.m_law_within T.F_law_within.kp T.b_law_within .nil pass0 (pa_cons (pe_ix ix_list (pv 2) pe_int (fun _ _ => rfl)) (pa_cons pe_int (pa_cons pe_int pa_nil)))))))) pss_nil)
      (pss_cons (ps_if (PW.pt (pw_or (pt_cmpR op_lt (pe_callB call_len (by rfl) T.n_len boot_len (pa_cons (pv 2) pa_nil)) pe_int (nomark _)) (pw_or (pt_not (pt_val (pe_callB call_isi (by rfl) T.n_isinstance boot_isinstance (pa_cons (pe_ix ix_list (pv 2) pe_int (fun _ _ => rfl)) (pa_cons (pe_bltn (v := .ty "str") (by rfl) T.n_str boot_str rfl) pa_nil))))) (pw_or1 (pt_cmpR op_notIn_seq (pe_ix ix_list (pv 2) pe_int (fun _ _ => rfl)) (pe_lst (pa_cons pe_str (pa_cons pe_str (pa_cons pe_str pa_nil)))) (by rfl)))))) (pss_one (ps_ret pe_bl)) pss_nil)
      (pss_cons (ps_if (pt_cmpR (op_in_seq : OpR _ _ (rIn K false)) (pv 1) (pe_tup (pa_cons pe_str (pa_cons pe_str pa_nil))) (by rfl)) (pss_one (ps_ret (pe_cmpR op_eq (pe_callB call_len (by rfl) T.n_len boot_len (pa_cons (pv 2) pa_nil)) pe_int (nomark _)))) pss_nil)
      (pss_one (ps_ret (pe_and (pe_cmpR (op_in_seq : OpR _ _ (rIn K false)) (pv 1) (pe_tup (pa_cons pe_str (pa_cons pe_str pa_nil))) (by rfl)) (pe_and (pe_cmpR op_eq (pe_callB call_len (by rfl) T.n_len boot_len (pa_cons (pv 2) pa_nil)) pe_int (nomark _)) (pe_one (pe_call G_law_within (hr.mono (by omega)) (by rfl) T.m_law_within T.F_law_within.kp T.b_law_within .nil pass0 (pa_cons (pe_ix ix_list (pv 2) pe_int (fun _ _ => rfl)) (pa_cons pe_int (pa_cons pe_int pa_nil)))))))))))))))))))), ?_⟩
    cases o with
    | none =>
      obtain ⟨t, ty, kt⟩ := tp
      exact ⟨v, rfl, v, .ty "tuple", t, _, _, rfl, .ty _, ty, kt, _, rfl, iteT (iteT (k _ (Same.refl _)))⟩
    | some xs =>
      obtain ⟨a, rfl, hx, hl, ok⟩ := tp
      refine ⟨.ref a, rfl, .ref a, .ty "tuple", _, _, true, rfl, .ty _, tyx_t hx, kit_ty (by decide +kernel), _, rfl, iteF ?_⟩
      refine ⟨.ref a, rfl, .ref a, xs.length, rfl, .inr ⟨_, hx, rfl⟩, rfl, _, rfl, ?_⟩
      cases xs with
      | nil => exact iteY rfl (iteT (k _ (Same.refl _)))
      | cons x r =>
      refine iteN (by simp; omega) ?_
      obtain ⟨t, ty, kS', _, _⟩ := (ok x (List.mem_cons_self ..)).ty
      refine ⟨.ref a, rfl, a, _, 0, x, rfl, rfl, hx, atI_nat (j := 0) rfl, x, .ty "str", t, _, _, rfl, .ty _, ty, kS', _, rfl, ?_⟩
      cases hv : isS x with
      | false =>
        refine iteT ?_
        have e : codeO (some (x :: r)) = false := by
          have e2 : hdS (some (x :: r)) = "" := by
            cases x with
            | str z => cases hv
            | _ => rfl
          unfold codeO
          rw [e2, show findT tb_CODE_ROWS "" = none by decide +kernel]
        rw [← e]
        exact k _ (Same.refl _)
      | true =>
      obtain ⟨u, rfl⟩ := isS_of hv
      refine iteF ?_
      -- own, rest
      refine ⟨.ref a, rfl, a, _, 0, .str u, rfl, rfl, hx, atI_nat (j := 0) rfl, .ref a, rfl, 1, rfl, a, _, rfl, hx, ?_, fun p hp => ?_⟩
      · rintro ⟨z, _⟩
        rw [show HT.sIx (V.str u :: r).length 0 (some 1) = min 1 (V.str u :: r).length from HT.sIx_nat _ 0 1, List.length_cons] at z
        omega
      rw [cut_tl]
      have s1 : Same H (upd H p (.tup r)) := Same.new hp
      have e1 : (upd H p (.tup r)) p = some (.tup r) := upd_same
      generalize upd H p (.tup r) = H1 at s1 e1 ⊢
      refine ⟨p, _, rfl, .inr (SqT.of e1), fun q hq => ⟨_, _, rfl, ?_⟩⟩
      have s2 : Same H (upd H1 q (.lst r)) := s1.trans (Same.new hq)
      have eq : (upd H1 q (.lst r)) q = some (.lst r) := upd_same
      generalize upd H1 q (.lst r) = H2 at s2 eq ⊢
      clear s1 e1 hq hp
      have okr : ∀ H', Same H H' → ∀ x ∈ r, Okv K H' b n x := fun H' s' x m => (ok x (List.mem_cons_of_mem _ m)).stp (Same.stp s')
      have fin : ∀ (c : Bool) (H' : Hp), Same H H' → codeO (some (.str u :: r)) = c → Q (.bl c) H' := fun c H' s' e => by
        rw [← e]
        exact k _ s'
      -- back, halt
      refine ⟨.str u, rfl, (by show 2 ≤ sizeLine; decide), fun p3 h3 => ?_⟩
      have s3 : Same H (upd H2 p3 (.tup [V.str "back", V.str "halt"])) := s2.trans (Same.new h3)
      have eq3 := Same.new (o := .tup [V.str "back", V.str "halt"]) h3 _ _ eq
      refine ⟨p3, _, rfl, .inr (SqT.of upd_same), rfl, rfl, _, rfl, ?_⟩
      generalize upd H2 p3 (.tup [V.str "back", V.str "halt"]) = H3 at s3 eq3 ⊢
      rw [if_neg Bool.false_ne_true]
      cases c1 : inV (.str u) [.str "back", .str "halt"] with
      | true =>
        refine iteT ⟨.ref q, rfl, .ref q, r.length, rfl, .inl ⟨_, SqL.of eq3, rfl⟩, rfl, ?_⟩
        refine fin _ _ s3 ?_
        rw [co_0 (in2.mp c1)]
        rw [Bool.eq_iff_iff]
        simp
      | false =>
      replace c1 := in2f.mp c1
      refine iteF ?_
      -- room
      refine ⟨.str u, rfl, rfl, _, rfl, ite2 (fun c2 => ?_) (fun c2 => ?_)⟩
      · have c2 : u = "room" := V.str.inj (of_decide_eq_true c2)
        subst c2
        refine ⟨.ref q, rfl, .ref q, r.length, rfl, .inl ⟨_, SqL.of eq3, rfl⟩, rfl, _, rfl, ite2 (fun d1 => ?_) (fun d1 => ?_)⟩
        · have d1 : r.length = 1 := by
            have d := of_decide_eq_true d1
            injection d with d
            omega
          obtain ⟨a0, m0⟩ := getD_at (r := r) (i := 0) (by omega)
          refine ⟨.ref q, rfl, q, r, 0, _, rfl, rfl, SqL.of eq3, a0, _, 1, 120, b, n, rfl, okr _ s3 _ m0, fun H4 s4 => fin _ _ (s3.trans s4) ?_⟩
          rw [co_room, decide_eq_true d1, Bool.true_and]
        · refine fin _ _ s3 ?_
          rw [co_room, decide_eq_false (fun z => d1 (decide_eq_true (by rw [z]; rfl))), Bool.false_and]
      replace c2 : u ≠ "room" := fun z => c2 (decide_eq_true (by rw [z]))
      -- jump, call
      refine ⟨.str u, rfl, (by show 2 ≤ sizeLine; decide), fun p4 h4 => ?_⟩
      have s4 : Same H (upd H3 p4 (.tup [V.str "jump", V.str "call"])) := s3.trans (Same.new h4)
      have eq4 := Same.new (o := .tup [V.str "jump", V.str "call"]) h4 _ _ eq3
      refine ⟨p4, _, rfl, .inr (SqT.of upd_same), rfl, rfl, _, rfl, ?_⟩
      generalize upd H3 p4 (.tup [V.str "jump", V.str "call"]) = H4 at s4 eq4 ⊢
      rw [if_neg Bool.false_ne_true]
      cases c3 : inV (.str u) [.str "jump", .str "call"] with
      | true =>
        replace c3 := in2.mp c3
        refine iteT ⟨.ref q, rfl, .ref q, r.length, rfl, .inl ⟨_, SqL.of eq4, rfl⟩, rfl, _, rfl, ite2 (fun d1 => ?_) (fun d1 => ?_)⟩
        · have d1 : r.length = 1 := by
            have d := of_decide_eq_true d1
            injection d with d
            omega
          obtain ⟨a0, m0⟩ := getD_at (r := r) (i := 0) (by omega)
          refine ⟨.ref q, rfl, q, r, 0, _, rfl, rfl, SqL.of eq4, a0, _, b, n, rfl, okr _ s4 _ m0, fun H5 s5 => fin _ _ (s4.trans s5) ?_⟩
          rw [co_N c3, decide_eq_true d1, Bool.true_and]
        · refine fin _ _ s4 ?_
          rw [co_N c3, decide_eq_false (fun z => d1 (decide_eq_true (by rw [z]; rfl))), Bool.false_and]
      | false =>
      replace c3 := in2f.mp c3
      refine iteF ?_
      -- the first register
      refine ⟨.ref q, rfl, .ref q, r.length, rfl, .inl ⟨_, SqL.of eq4, rfl⟩, rfl, _, rfl, ite2 (fun d1 => ?_) (fun d1 => ?_)⟩
      · have d1 : r = [] := by
          have d := of_decide_eq_true d1
          cases r with
          | nil => rfl
          | cons x t =>
            injection d with d
            rw [List.length_cons] at d
            omega
        subst d1
        exact iteT (fin _ _ s4 (co_no0 c1 c2 c3 rfl))
      replace d1 : 0 < r.length := by
        rcases Nat.eq_zero_or_pos r.length with z | z
        · exact absurd (decide_eq_true (by rw [z]; rfl)) d1
        · exact z
      obtain ⟨a0, m0⟩ := getD_at (r := r) (i := 0) d1
      obtain ⟨t0, ty0, k0, _, _⟩ := (okr _ s4 _ m0).ty
      refine ⟨.ref q, rfl, q, r, 0, _, rfl, rfl, SqL.of eq4, a0, _, .ty "str", t0, _, _, rfl, .ty _, ty0, k0, _, rfl, ?_⟩
      cases f0 : isS (r.getD 0 .non) with
      | false => exact iteT (iteT (fin _ _ s4 (co_no0 c1 c2 c3 (by unfold regV; rw [f0, Bool.false_and]))))
      | true =>
      refine iteF ?_
      obtain ⟨z0, ez0⟩ := isS_of f0
      refine ⟨.ref q, rfl, q, r, 0, _, rfl, rfl, SqL.of eq4, a0, (by show 3 ≤ sizeLine; decide), fun p5 h5 => ?_⟩
      have s5 : Same H (upd H4 p5 (.lst [V.str "r0", V.str "r1", V.str "r2"])) := s4.trans (Same.new h5)
      have eq5 := Same.new (o := .lst [V.str "r0", V.str "r1", V.str "r2"]) h5 _ _ eq4
      refine ⟨p5, regs, rfl, .inl (SqL.of upd_same), (by rw [ez0]; rfl), rfl, _, rfl, ?_⟩
      generalize upd H4 p5 (.lst [V.str "r0", V.str "r1", V.str "r2"]) = H5 at s5 eq5 ⊢
      rw [if_pos rfl]
      cases g0 : inV (r.getD 0 .non) regs with
      | false => exact iteT (fin _ _ s5 (co_no0 c1 c2 c3 (by unfold regV; rw [g0, Bool.and_false])))
      | true =>
      have R0 : regV (r.getD 0 .non) = true := by unfold regV; rw [f0, g0]; rfl
      refine iteF ?_
      -- callby, out
      refine ⟨.str u, rfl, (by show 2 ≤ sizeLine; decide), fun p6 h6 => ?_⟩
      have s6 : Same H (upd H5 p6 (.tup [V.str "callby", V.str "out"])) := s5.trans (Same.new h6)
      have eq6 := Same.new (o := .tup [V.str "callby", V.str "out"]) h6 _ _ eq5
      refine ⟨p6, _, rfl, .inr (SqT.of upd_same), rfl, rfl, _, rfl, ?_⟩
      generalize upd H5 p6 (.tup [V.str "callby", V.str "out"]) = H6 at s6 eq6 ⊢
      rw [if_neg Bool.false_ne_true]
      cases c4 : inV (.str u) [.str "callby", .str "out"] with
      | true =>
        refine iteT ⟨.ref q, rfl, .ref q, r.length, rfl, .inl ⟨_, SqL.of eq6, rfl⟩, rfl, fin _ _ s6 ?_⟩
        rw [co_R (in2.mp c4), R0, Bool.and_true, Bool.eq_iff_iff]
        simp
        omega
      | false =>
      replace c4 := in2f.mp c4
      refine iteF ?_
      -- name, ifzero
      refine ⟨.str u, rfl, (by show 2 ≤ sizeLine; decide), fun p7 h7 => ?_⟩
      have s7 : Same H (upd H6 p7 (.tup [V.str "name", V.str "ifzero"])) := s6.trans (Same.new h7)
      have eq7 := Same.new (o := .tup [V.str "name", V.str "ifzero"]) h7 _ _ eq6
      refine ⟨p7, _, rfl, .inr (SqT.of upd_same), rfl, rfl, _, rfl, ?_⟩
      generalize upd H6 p7 (.tup [V.str "name", V.str "ifzero"]) = H7 at s7 eq7 ⊢
      rw [if_neg Bool.false_ne_true]
      cases c5 : inV (.str u) [.str "name", .str "ifzero"] with
      | true =>
        replace c5 := in2.mp c5
        refine iteT ⟨.ref q, rfl, .ref q, r.length, rfl, .inl ⟨_, SqL.of eq7, rfl⟩, rfl, _, rfl, ite2 (fun d2 => ?_) (fun d2 => ?_)⟩
        · have d2 : r.length = 2 := by
            have d := of_decide_eq_true d2
            injection d with d
            omega
          obtain ⟨a1, m1⟩ := getD_at (r := r) (i := 1) (by omega)
          refine ⟨.ref q, rfl, q, r, 1, _, rfl, rfl, SqL.of eq7, a1, _, b, n, rfl, okr _ s7 _ m1, fun H8 s8 => fin _ _ (s7.trans s8) ?_⟩
          rw [co_RN c5, decide_eq_true d2, R0, Bool.true_and, Bool.true_and]
        · refine fin _ _ s7 ?_
          rw [co_RN c5, decide_eq_false (fun z => d2 (decide_eq_true (by rw [z]; rfl))), Bool.false_and]
      | false =>
      replace c5 := in2f.mp c5
      refine iteF ?_
      -- put
      refine ⟨.str u, rfl, rfl, _, rfl, ite2 (fun c6 => ?_) (fun c6 => ?_)⟩
      · have c6 : u = "put" := V.str.inj (of_decide_eq_true c6)
        subst c6
        refine ⟨.ref q, rfl, .ref q, r.length, rfl, .inl ⟨_, SqL.of eq7, rfl⟩, rfl, _, rfl, ite2 (fun d2 => ?_) (fun d2 => ?_)⟩
        · have d2 : r.length = 2 := by
            have d := of_decide_eq_true d2
            injection d with d
            omega
          obtain ⟨a1, m1⟩ := getD_at (r := r) (i := 1) (by omega)
          refine ⟨.ref q, rfl, q, r, 1, _, rfl, rfl, SqL.of eq7, a1, _, 0, 65535, b, n, rfl, okr _ s7 _ m1, fun H8 s8 => fin _ _ (s7.trans s8) ?_⟩
          rw [co_put, decide_eq_true d2, R0, Bool.true_and, Bool.true_and]
        · refine fin _ _ s7 ?_
          rw [co_put, decide_eq_false (fun z => d2 (decide_eq_true (by rw [z]; rfl))), Bool.false_and]
      replace c6 : u ≠ "put" := fun z => c6 (decide_eq_true (by rw [z]))
      -- the second register
      refine ⟨.ref q, rfl, .ref q, r.length, rfl, .inl ⟨_, SqL.of eq7, rfl⟩, _, _, rfl, rfl, _, rfl, ite2 (fun d2 => ?_) (fun d2 => ?_)⟩
      · have d2 : r.length < 2 := by
          have d := of_decide_eq_true d2
          omega
        refine iteT (fin _ _ s7 (co_no1 c1 c2 c3 c4 c5 c6 ?_))
        rw [List.getD_eq_getElem?_getD, List.getElem?_eq_none (by omega)]
        rfl
      replace d2 : 2 ≤ r.length := by
        have q : ¬ ((r.length : Int) < 2) := fun z => d2 (decide_eq_true z)
        omega
      obtain ⟨a1, m1⟩ := getD_at (r := r) (i := 1) (by omega)
      obtain ⟨t1, ty1, k1, _, _⟩ := (okr _ s7 _ m1).ty
      refine ⟨.ref q, rfl, q, r, 1, _, rfl, rfl, SqL.of eq7, a1, _, .ty "str", t1, _, _, rfl, .ty _, ty1, k1, _, rfl, ?_⟩
      cases f1 : isS (r.getD 1 .non) with
      | false => exact iteT (iteT (fin _ _ s7 (co_no1 c1 c2 c3 c4 c5 c6 (by unfold regV; rw [f1, Bool.false_and]))))
      | true =>
      refine iteF ?_
      obtain ⟨z1, ez1⟩ := isS_of f1
      refine ⟨.ref q, rfl, q, r, 1, _, rfl, rfl, SqL.of eq7, a1, (by show 3 ≤ sizeLine; decide), fun p8 h8 => ?_⟩
      have s8 : Same H (upd H7 p8 (.lst [V.str "r0", V.str "r1", V.str "r2"])) := s7.trans (Same.new h8)
      have eq8 := Same.new (o := .lst [V.str "r0", V.str "r1", V.str "r2"]) h8 _ _ eq7
      refine ⟨p8, regs, rfl, .inl (SqL.of upd_same), (by rw [ez1]; rfl), rfl, _, rfl, ?_⟩
      generalize upd H7 p8 (.lst [V.str "r0", V.str "r1", V.str "r2"]) = H8 at s8 eq8 ⊢
      rw [if_pos rfl]
      cases g1 : inV (r.getD 1 .non) regs with
      | false => exact iteT (fin _ _ s8 (co_no1 c1 c2 c3 c4 c5 c6 (by unfold regV; rw [g1, Bool.and_false])))
      | true =>
      have R1 : regV (r.getD 1 .non) = true := by unfold regV; rw [f1, g1]; rfl
      refine iteF ?_
      -- add, take
      refine ⟨.str u, rfl, (by show 2 ≤ sizeLine; decide), fun p9 h9 => ?_⟩
      have s9 : Same H (upd H8 p9 (.tup [V.str "add", V.str "take"])) := s8.trans (Same.new h9)
      have eq9 := Same.new (o := .tup [V.str "add", V.str "take"]) h9 _ _ eq8
      refine ⟨p9, _, rfl, .inr (SqT.of upd_same), rfl, rfl, _, rfl, ?_⟩
      generalize upd H8 p9 (.tup [V.str "add", V.str "take"]) = H9 at s9 eq9 ⊢
      rw [if_neg Bool.false_ne_true]
      cases c7 : inV (.str u) [.str "add", .str "take"] with
      | true =>
        refine iteT ⟨.ref q, rfl, .ref q, r.length, rfl, .inl ⟨_, SqL.of eq9, rfl⟩, rfl, fin _ _ s9 ?_⟩
        rw [co_RR (in2.mp c7), R0, R1, Bool.true_and, Bool.and_true, Bool.eq_iff_iff]
        simp
        omega
      | false =>
      replace c7 := in2f.mp c7
      refine iteF ?_
      -- load, store
      refine ⟨.str u, rfl, (by show 2 ≤ sizeLine; decide), fun p10 h10 => ?_⟩
      have s10 : Same H (upd H9 p10 (.tup [V.str "load", V.str "store"])) := s9.trans (Same.new h10)
      have eq10 := Same.new (o := .tup [V.str "load", V.str "store"]) h10 _ _ eq9
      refine ⟨p10, _, rfl, .inr (SqT.of upd_same), rfl, rfl, _, rfl, ?_⟩
      generalize upd H9 p10 (.tup [V.str "load", V.str "store"]) = H10 at s10 eq10 ⊢
      rw [if_neg Bool.false_ne_true]
      cases c8 : inV (.str u) [.str "load", .str "store"] with
      | true =>
        replace c8 := in2.mp c8
        refine iteT ⟨.ref q, rfl, .ref q, r.length, rfl, .inl ⟨_, SqL.of eq10, rfl⟩, rfl, _, rfl, ite2 (fun d3 => ?_) (fun d3 => ?_)⟩
        · have d3 : r.length = 3 := by
            have d := of_decide_eq_true d3
            injection d with d
            omega
          obtain ⟨a2, m2⟩ := getD_at (r := r) (i := 2) (by omega)
          refine ⟨.ref q, rfl, q, r, 2, _, rfl, rfl, SqL.of eq10, a2, _, 0, 15, b, n, rfl, okr _ s10 _ m2, fun H11 s11 => fin _ _ (s10.trans s11) ?_⟩
          rw [co_RRd c8, decide_eq_true d3, R0, R1, Bool.true_and, Bool.true_and, Bool.true_and]
        · refine fin _ _ s10 ?_
          rw [co_RRd c8, decide_eq_false (fun z => d3 (decide_eq_true (by rw [z]; rfl))), Bool.false_and]
      | false =>
      replace c8 := in2f.mp c8
      refine iteF (fin _ _ s10 ?_)
      rcases cls u with c | c | c | c | c | c | c | c | c
      · exact absurd c c1
      · exact absurd c c2
      · exact absurd c c3
      · exact absurd c c4
      · exact absurd c c5
      · exact absurd c c6
      · exact absurd c c7
      · exact absurd c c8
      · exact codeO_no c
end

section
variable {P : Program} {w : World} {K : PySem.W.Frag} {mg : Str → Option Value} {base : Heap} {Z : Fs}
theorem dataO_len {o : Option (List V)} (h : ∀ u x, o ≠ some [.str u, x]) : dataO o = false := by
  match o with
  | none => rfl
  | some [] => rfl
  | some (v :: r) =>
    cases hv : isS v with
    | false =>
      have e2 : hdS (some (v :: r)) = "" := by
        cases v with
        | str z => cases hv
        | _ => rfl
      unfold dataO
      rw [e2, show findT tb_DATA_ROWS "" = none by decide +kernel]
    | true =>
      obtain ⟨u, rfl⟩ := isS_of hv
      have hl : ¬ r.length = 1 := fun z => by
        match r, z with
        | [x], _ => exact h u x rfl
      rcases clsD u with c | c | c | c
      · subst c
        rw [da_word, decide_eq_false hl, Bool.false_and]
      · subst c
        rw [da_addr, decide_eq_false hl, Bool.false_and]
      · subst c
        rw [da_room, decide_eq_false hl, Bool.false_and]
      · exact dataO_no c
theorem ok_law_data_so (T : Txt K w mg Z) : FnOk P w K mg base CX0 2 Z.a_law_data_so Z.d_law_data_so ["_law_thing"] (sp_is_data_row K) := by
  have G_law_is_title : FnOk P w K mg base CX0 1 Z.a_law_is_title Z.d_law_is_title ["_law_thing"] (sp_law_is_title K) := ok_law_is_title T
  have G_law_within : FnOk P w K mg base CX0 1 Z.a_law_within Z.d_law_within ["_law_thing", "_law_low_y", "_law_high_y"] (sp_law_within K) := ok_law_within T
  refine T.F_law_data_so.ok sc_law_data_so (fun vs H Q E h => ?_) (fun cdv A outer s H vs Q E hr h => ?_)
  · obtain ⟨v, b, n, o, rfl, _⟩ := h
    rfl
  · obtain ⟨v, b, n, o, rfl, tp, k⟩ := h
    refine ⟨_, (pss_cons (ps_if (PW.pt (pw_or (pt_not (pt_val (pe_callB call_isi (by rfl) T.n_isinstance boot_isinstance (pa_cons (pv 0) (pa_cons (pe_bltn (v := .ty "tuple") (by rfl) T.n_tuple boot_tuple rfl) pa_nil))))) (pw_or (pt_cmpR op_ne (pe_callB call_len (by rfl) T.n_len boot_len (pa_cons (pv 0) pa_nil)) pe_int (nomark _)) (pw_or1 (pt_not (pt_val (pe_callB call_isi (by rfl) T.n_isinstance boot_isinstance (pa_cons (pe_ix ix_tup (pv 0) pe_int (fun _ _ => rfl)) (pa_cons (pe_bltn (v := .ty "str") (by rfl) T.n_str boot_str rfl) pa_nil))))))))) (pss_one (ps_ret pe_bl)) pss_nil)
      (pss_cons (ps_if (pt_cmpR op_eq (pe_ix ix_tup (pv 0) pe_int (fun _ _ => rfl)) pe_str (nomark _)) (pss_one (ps_ret (pe_call G_law_within (hr.mono (by omega)) (by rfl) T.m_law_within T.F_law_within.kp T.b_law_within .nil pass0 (pa_cons (pe_ix ix_tup (pv 0) pe_int (fun _ _ => rfl)) (pa_cons pe_int (pa_cons pe_int pa_nil)))))) pss_nil)
      (pss_cons (ps_if (pt_cmpR op_eq (pe_ix ix_tup (pv 0) pe_int (fun _ _ => rfl)) pe_str (nomark _)) (pss_one (ps_ret (pe_call G_law_is_title (hr.mono (by omega)) (by rfl) T.m_law_is_title T.F_law_is_title.kp T.b_law_is_title .nil pass0 (pa_cons (pe_ix ix_tup (pv 0) pe_int (fun _ _ => rfl)) pa_nil)))) pss_nil)
      (pss_one (ps_ret (pe_and (pe_cmpR op_eq (pe_ix ix_tup (pv 0) pe_int (fun _ _ => rfl)) pe_str (nomark _)) (pe_one (pe_call G_law_within (hr.mono (by omega)) (by rfl) T.m_law_within T.F_law_within.kp T.b_law_within .nil pass0 (pa_cons (pe_ix ix_tup (pv 0) pe_int (fun _ _ => rfl)) (pa_cons pe_int (pa_cons pe_int pa_nil))))))))))), ?_⟩
    have no : (∀ u x, o ≠ some [.str u, x]) → Q (.bl false) H := fun z => by
      rw [← dataO_len z]
      exact k _ (Same.refl _)
    cases o with
    | none =>
      obtain ⟨t, ty, kt⟩ := tp
      exact ⟨v, rfl, v, .ty "tuple", t, _, _, rfl, .ty _, ty, kt, _, rfl, iteT (iteT (no (fun _ _ z => nomatch z)))⟩
    | some xs =>
      obtain ⟨a, rfl, hx, hl, ok⟩ := tp
      refine ⟨.ref a, rfl, .ref a, .ty "tuple", _, _, true, rfl, .ty _, tyx_t hx, kit_ty (by decide +kernel), _, rfl, iteF ?_⟩
      refine ⟨.ref a, rfl, .ref a, xs.length, rfl, .inr ⟨_, hx, rfl⟩, rfl, _, rfl, ?_⟩
      by_cases h2 : xs.length = 2
      · have e0 : (!decide (V.int (xs.length : Int) = V.int 2)) = false := by simp [h2]
        rw [e0]
        refine iteF ?_
        match xs, h2 with
        | [x, y], _ =>
        obtain ⟨t, ty, kS', _, _⟩ := (ok x (List.mem_cons_self ..)).ty
        refine ⟨.ref a, rfl, a, _, 0, x, rfl, rfl, hx, atI_nat (j := 0) rfl, x, .ty "str", t, _, _, rfl, .ty _, ty, kS', _, rfl, ?_⟩
        cases hv : isS x with
        | false =>
          refine iteT (no fun u x z => ?_)
          cases z
          cases hv
        | true =>
        obtain ⟨u, rfl⟩ := isS_of hv
        refine iteF ?_
        have oy := ok y (List.mem_cons_of_mem _ (List.mem_cons_self ..))
        refine ⟨.ref a, rfl, a, _, 0, .str u, rfl, rfl, hx, atI_nat (j := 0) rfl, rfl, _, rfl, ite2 (fun c => ?_) (fun c1 => ?_)⟩
        · have c := V.str.inj (of_decide_eq_true c)
          subst c
          refine ⟨.ref a, rfl, a, _, 1, y, rfl, rfl, hx, atI_nat (j := 1) rfl, y, 0, 65535, b, n, rfl, oy, fun H1 s1 => ?_⟩
          rw [show numV y 0 65535 = dataO (some [.str "word", y]) by rw [da_word]; rfl]
          exact k _ s1
        refine ⟨.ref a, rfl, a, _, 0, .str u, rfl, rfl, hx, atI_nat (j := 0) rfl, rfl, _, rfl, ite2 (fun c => ?_) (fun c2 => ?_)⟩
        · have c := V.str.inj (of_decide_eq_true c)
          subst c
          refine ⟨.ref a, rfl, a, _, 1, y, rfl, rfl, hx, atI_nat (j := 1) rfl, y, b, n, rfl, oy, fun H1 s1 => ?_⟩
          rw [show nmV y = dataO (some [.str "address", y]) by rw [da_addr]; rfl]
          exact k _ s1
        refine ⟨.ref a, rfl, a, _, 0, .str u, rfl, rfl, hx, atI_nat (j := 0) rfl, rfl, _, rfl, ite2 (fun c => ?_) (fun c3 => ?_)⟩
        · have c := V.str.inj (of_decide_eq_true c)
          subst c
          refine ⟨.ref a, rfl, a, _, 1, y, rfl, rfl, hx, atI_nat (j := 1) rfl, y, 1, 120, b, n, rfl, oy, fun H1 s1 => ?_⟩
          rw [show numV y 1 120 = dataO (some [.str "room", y]) by rw [da_room]; rfl]
          exact k _ s1
        · have e : dataO (some [.str u, y]) = false := by
            rcases clsD u with z | z | z | z
            · exact absurd (decide_eq_true (by rw [z])) c1
            · exact absurd (decide_eq_true (by rw [z])) c2
            · exact absurd (decide_eq_true (by rw [z])) c3
            · exact dataO_no z
          show Q (.bl false) H
          rw [← e]
          exact k _ (Same.refl _)
      · have e0 : (!decide (V.int (xs.length : Int) = V.int 2)) = true := by
          simp
          omega
        rw [e0]
        refine iteT (no fun u x z => ?_)
        cases z
        exact h2 rfl
end

/-! ### drawn rows are rows -/
def Rwy (ts : List Str) (xs : List V) : Prop := CRow ts xs ∨ DRow ts xs
def hd0 (xs : List V) : V := xs.getD 0 .non
def closL : List V := [.str "jump", .str "halt", .str "back"]
def nameL : List V := [.str "name", .str "jump", .str "ifzero", .str "call", .str "address"]
/-- the last item -/
def lastV (xs : List V) : V := (atI xs (-1)).getD .non
/-- the name in a row -/
def namV (xs : List V) : V := if inV (hd0 xs) nameL then lastV xs else .non
theorem regV_of {r : V} (h : r ∈ regs) : regV r = true := by
  have all : ∀ r ∈ regs, regV r = true := by decide +kernel
  exact all r h
theorem reg_str {r : V} (h : r ∈ regs) : ∃ z, r = .str z ∧ StrK z := by
  have e := regV_of h
  simp only [regs, List.mem_cons, List.not_mem_nil, or_false] at h
  rcases h with rfl | rfl | rfl
  · exact ⟨_, rfl, by decide +kernel, by decide +kernel⟩
  · exact ⟨_, rfl, by decide +kernel, by decide +kernel⟩
  · exact ⟨_, rfl, by decide +kernel, by decide +kernel⟩
theorem Okv.reg {K : PySem.W.Frag} {H : Hp} {b : Addr} {n : Nat} {r : V} (h : r ∈ regs) : Okv K H b n r := by
  obtain ⟨z, rfl, hz⟩ := reg_str h
  exact .str hz
theorem nmV_of {z : Str} (h : Nm z) : nmV (.str z) = true := by
  obtain ⟨h1, h2, h3⟩ := h
  simp [nmV, h1, h2, h3]
theorem numV_of {i lo hi : Int} (h0 : lo ≤ i) (h1 : i ≤ hi) : numV (.int i) lo hi = true := by
  simp [numV, h0, h1]
section
variable {K : PySem.W.Frag} {H : Hp} {b : Addr} {ts : List Str} {xs : List V}
theorem CRow.ok (hz : ∀ z ∈ ts, Nm z) (h : CRow ts xs) : (∀ n, ∀ x ∈ xs, Okv K H b n x) ∧ 1 ≤ xs.length ∧ xs.length ≤ 4 ∧ codeO (some xs) = true := by
  cases h with
  | put hr h0 h1 => exact ⟨fun n => memc (.lit (by decide +kernel)) (memc (.reg hr) (mem1 .int)), by simp, by simp, by rw [co_put]; exact Bool.and_eq_true_iff.mpr ⟨rfl, Bool.and_eq_true_iff.mpr ⟨regV_of hr, numV_of h0 h1⟩⟩⟩
  | name hr ht => exact ⟨fun n => memc (.lit (by decide +kernel)) (memc (.reg hr) (mem1 (.str (hz _ ht).strK))), by simp, by simp, by rw [co_RN (.inl rfl)]; exact Bool.and_eq_true_iff.mpr ⟨rfl, Bool.and_eq_true_iff.mpr ⟨regV_of hr, nmV_of (hz _ ht)⟩⟩⟩
  | ifzero hr ht => exact ⟨fun n => memc (.lit (by decide +kernel)) (memc (.reg hr) (mem1 (.str (hz _ ht).strK))), by simp, by simp, by rw [co_RN (.inr rfl)]; exact Bool.and_eq_true_iff.mpr ⟨rfl, Bool.and_eq_true_iff.mpr ⟨regV_of hr, nmV_of (hz _ ht)⟩⟩⟩
  | add hr hs => exact ⟨fun n => memc (.lit (by decide +kernel)) (memc (.reg hr) (mem1 (.reg hs))), by simp, by simp, by rw [co_RR (.inl rfl)]; exact Bool.and_eq_true_iff.mpr ⟨rfl, Bool.and_eq_true_iff.mpr ⟨regV_of hr, regV_of hs⟩⟩⟩
  | take hr hs => exact ⟨fun n => memc (.lit (by decide +kernel)) (memc (.reg hr) (mem1 (.reg hs))), by simp, by simp, by rw [co_RR (.inr rfl)]; exact Bool.and_eq_true_iff.mpr ⟨rfl, Bool.and_eq_true_iff.mpr ⟨regV_of hr, regV_of hs⟩⟩⟩
  | load hr hs h0 h1 => exact ⟨fun n => memc (.lit (by decide +kernel)) (memc (.reg hr) (memc (.reg hs) (mem1 .int))), by simp, by simp, by rw [co_RRd (.inl rfl)]; exact Bool.and_eq_true_iff.mpr ⟨rfl, Bool.and_eq_true_iff.mpr ⟨regV_of hr, Bool.and_eq_true_iff.mpr ⟨regV_of hs, numV_of h0 h1⟩⟩⟩⟩
  | store hr hs h0 h1 => exact ⟨fun n => memc (.lit (by decide +kernel)) (memc (.reg hr) (memc (.reg hs) (mem1 .int))), by simp, by simp, by rw [co_RRd (.inr rfl)]; exact Bool.and_eq_true_iff.mpr ⟨rfl, Bool.and_eq_true_iff.mpr ⟨regV_of hr, Bool.and_eq_true_iff.mpr ⟨regV_of hs, numV_of h0 h1⟩⟩⟩⟩
  | jump ht => exact ⟨fun n => memc (.lit (by decide +kernel)) (mem1 (.str (hz _ ht).strK)), by simp, by simp, by rw [co_N (.inl rfl)]; exact Bool.and_eq_true_iff.mpr ⟨rfl, nmV_of (hz _ ht)⟩⟩
  | call ht => exact ⟨fun n => memc (.lit (by decide +kernel)) (mem1 (.str (hz _ ht).strK)), by simp, by simp, by rw [co_N (.inr rfl)]; exact Bool.and_eq_true_iff.mpr ⟨rfl, nmV_of (hz _ ht)⟩⟩
  | callby hr => exact ⟨fun n => memc (.lit (by decide +kernel)) (mem1 (.reg hr)), by simp, by simp, by rw [co_R (.inl rfl)]; exact Bool.and_eq_true_iff.mpr ⟨rfl, regV_of hr⟩⟩
  | out hr => exact ⟨fun n => memc (.lit (by decide +kernel)) (mem1 (.reg hr)), by simp, by simp, by rw [co_R (.inr rfl)]; exact Bool.and_eq_true_iff.mpr ⟨rfl, regV_of hr⟩⟩
  | back => exact ⟨fun n => mem1 (.lit (by decide +kernel)), by simp, by simp, by rw [co_0 (.inl rfl)]; rfl⟩
  | halt => exact ⟨fun n => mem1 (.lit (by decide +kernel)), by simp, by simp, by rw [co_0 (.inr rfl)]; rfl⟩
  | room h0 h1 => exact ⟨fun n => memc (.lit (by decide +kernel)) (mem1 .int), by simp, by simp, by rw [co_room]; exact Bool.and_eq_true_iff.mpr ⟨rfl, numV_of h0 h1⟩⟩
theorem DRow.ok (hz : ∀ z ∈ ts, Nm z) (h : DRow ts xs) : (∀ n, ∀ x ∈ xs, Okv K H b n x) ∧ 1 ≤ xs.length ∧ xs.length ≤ 4 ∧ dataO (some xs) = true ∧ inV (hd0 xs) closL = false := by
  cases h with
  | word h0 h1 => exact ⟨fun n => memc (.lit (by decide +kernel)) (mem1 .int), by simp, by simp, by rw [da_word]; exact Bool.and_eq_true_iff.mpr ⟨rfl, numV_of h0 h1⟩, rfl⟩
  | address ht => exact ⟨fun n => memc (.lit (by decide +kernel)) (mem1 (.str (hz _ ht).strK)), by simp, by simp, by rw [da_addr]; exact Bool.and_eq_true_iff.mpr ⟨rfl, nmV_of (hz _ ht)⟩, rfl⟩
  | room h0 h1 => exact ⟨fun n => memc (.lit (by decide +kernel)) (mem1 .int), by simp, by simp, by rw [da_room]; exact Bool.and_eq_true_iff.mpr ⟨rfl, numV_of h0 h1⟩, rfl⟩
theorem Rwy.ok (hz : ∀ z ∈ ts, Nm z) (h : Rwy ts xs) : (∀ n, ∀ x ∈ xs, Okv K H b n x) ∧ 1 ≤ xs.length ∧ xs.length ≤ 4 := by
  rcases h with h | h
  · obtain ⟨h1, h2, h3, _⟩ := h.ok (K := K) (H := H) (b := b) hz
    exact ⟨h1, h2, h3⟩
  · obtain ⟨h1, h2, h3, _⟩ := h.ok (K := K) (H := H) (b := b) hz
    exact ⟨h1, h2, h3⟩
theorem Rwy.tp {a : Addr} (hz : ∀ z ∈ ts, Nm z) (h : Rwy ts xs) (e : SqT K H a xs) : Tp K H a 0 (.ref a) (some xs) :=
  ⟨a, rfl, e, Nat.le_trans (h.ok (K := K) (H := H) (b := a) hz).2.2 (by decide), (h.ok hz).1 0⟩
theorem Rwy.str (h : Rwy ts xs) : flatV (hd0 xs) = true := by
  rcases h with h | h
  · cases h <;> rfl
  · cases h <;> rfl
theorem Rwy.hd (h : Rwy ts xs) : atI xs 0 = some (hd0 xs) := by
  have l1 : 1 ≤ xs.length := by
    rcases h with h | h
    · cases h <;> simp
    · cases h <;> simp
  exact (getD_at (i := 0) (by omega)).1
end

section
variable {P : Program} {w : World} {K : PySem.W.Frag} {mg : Str → Option Value} {base : Heap} {Z : Fs}
/-! ### a closing row -/
def sp_law_last_row : Sp := fun vs H Q _ => ∃ (b l t : Addr) (ts : List Str), vs = [.ref b, .ref t] ∧ Bag H b l ∧ Tls H b t ts ∧ ∀ (H' : Hp) (a : Addr) (xs : List V), Stp b H H' → Bag H' b l → H' a = some (.tup xs) → a ≠ b → CRow ts xs → Q (.ref a) H'
theorem ok_law_last_row (T : Txt K w mg Z) : FnOk P w K mg base CX0 3 Z.a_law_last_row Z.d_law_last_row ["_law_bag_here", "_law_titles_here"] sp_law_last_row := by
  have G_law_of : FnOk P w K mg base CX0 2 Z.a_law_of Z.d_law_of ["_law_bag_here", "_law_things"] (sp_law_of K) := ok_law_of T
  refine T.F_law_last_row.ok sc_law_last_row (fun vs H Q E h => ?_) (fun cdv A outer s H vs Q E hr h => ?_)
  · obtain ⟨b, l, t, ts, rfl, _⟩ := h
    rfl
  · obtain ⟨b, l, t, ts, rfl, B, TT, k⟩ := h
    refine ⟨_, (pss_one (ps_ret (pe_call G_law_of (hr.mono (by omega)) (by rfl) T.m_law_of T.F_law_of.kp T.b_law_of .nil pass0 (pa_cons (pv 0) (pa_cons (pe_lst (pa_cons (pe_tup (pa_cons pe_str (pa_cons (pe_call G_law_of (hr.mono (by omega)) (by rfl) T.m_law_of T.F_law_of.kp T.b_law_of .nil pass0 (pa_cons (pv 0) (pa_cons (pv 1) pa_nil))) pa_nil))) (pa_cons (pe_tup (pa_cons pe_str pa_nil)) (pa_cons (pe_tup (pa_cons pe_str pa_nil)) pa_nil)))) pa_nil))))), ?_⟩
    refine ⟨.ref b, rfl, .ref b, rfl, .ref t, rfl, b, l, .ref t, _, rfl, B, TT.thg, fun H0 u s0 B0 hu => ?_⟩
    obtain ⟨z, rfl, hz⟩ := hu
    refine ⟨(by show 2 ≤ sizeLine; decide), fun p1 h1 => ?_⟩
    have n1 := B0.ne h1
    have s1 : Same H0 (upd H0 p1 (.tup [V.str "jump", V.str z])) := Same.new h1
    have e1 : (upd H0 p1 (.tup [V.str "jump", V.str z])) p1 = some (.tup [V.str "jump", V.str z]) := upd_same
    generalize upd H0 p1 (.tup [V.str "jump", V.str z]) = H1 at s1 e1 ⊢
    have B1 := B0.same s1
    refine ⟨(by show 1 ≤ sizeLine; decide), fun p2 h2 => ?_⟩
    have n2 := B1.ne h2
    have s2 : Same H1 (upd H1 p2 (.tup [V.str "halt"])) := Same.new h2
    have e2 : (upd H1 p2 (.tup [V.str "halt"])) p2 = some (.tup [V.str "halt"]) := upd_same
    generalize upd H1 p2 (.tup [V.str "halt"]) = H2 at s2 e2 ⊢
    have B2 := B1.same s2
    refine ⟨(by show 1 ≤ sizeLine; decide), fun p3 h3 => ?_⟩
    have n3 := B2.ne h3
    have s3 : Same H2 (upd H2 p3 (.tup [V.str "back"])) := Same.new h3
    have e3 : (upd H2 p3 (.tup [V.str "back"])) p3 = some (.tup [V.str "back"]) := upd_same
    generalize upd H2 p3 (.tup [V.str "back"]) = H3 at s3 e3 ⊢
    have B3 := B2.same s3
    refine ⟨(by show 3 ≤ sizeLine; decide), fun q4 hq4 => ?_⟩
    have f2 := s3 _ _ e2
    have f1 := s3 _ _ (s2 _ _ e1)
    refine ⟨b, l, .ref q4, fun v => ∃ (a : Addr) (xs : List V), v = .ref a ∧ H3 a = some (.tup xs) ∧ a ≠ b ∧ CRow ts xs, rfl, B3.new hq4, .lst (B3.ne hq4) (SqL.of upd_same) (by show 0 < 3; decide) (by show 3 ≤ 100000; decide) (memc ⟨_, _, rfl, f1, n1, .jump hz⟩ (memc ⟨_, _, rfl, f2, n2, .halt⟩ (mem1 ⟨_, _, rfl, e3, n3, .back⟩))), fun H5 u s5 B5 hu => ?_⟩
    obtain ⟨a, xs, rfl, ea, na, hx⟩ := hu
    exact k _ a xs (((s0.trans (Same.stp ((s1.trans s2).trans s3))).trans (Stp.new hq4)).trans s5) B5 (s5 _ _ na ((Stp.new hq4) _ _ na ea)) na hx
end

/-! ### figures: numbers as they are written -/
open PySem.NumText (AllDigits digitsVal toDigits_digitsVal)
def dg (c : Nat) : Bool := decide (48 ≤ c) && decide (c ≤ 57)
def isCan (z : Str) : Bool := z.cps.toList.all dg && (decide (1 ≤ z.cps.size) && (decide (z.cps.size ≤ 6) && (decide (z.cps.size = 1) || !decide (z.cps.toList.head? = some 48))))
def canon (z : Str) : Option Nat := if isCan z = true then some (digitsVal z.cps.toList) else none
def figV (z : Str) : V := match canon z with
  | some n => .int n
  | none => .str z
def numR (z : Str) : V := if z.cps.size ≤ 5 then (match canon z with
  | some n => .int n
  | none => .non) else .non
def numK (q : Str) : Prop := q = "n" ∨ q = "d" ∨ q = "k"
instance (q : Str) : Decidable (numK q) := by unfold numK; infer_instance
def riV (q z : Str) : V := if numK q then numR z else .str z
def strOf : V → Str
  | .str z => z
  | .int i => Str.ofString (toString i)
  | _ => ""
theorem fold_lt : ∀ (cs : List Nat) (a : Nat), (∀ c ∈ cs, c ≤ 57) → cs.foldl (fun acc c => acc * 10 + (c - 48)) a < (a + 1) * 10 ^ cs.length
  | [], a, _ => by simp
  | c :: cs, a, h => by
    have h1 := h c (List.mem_cons_self ..)
    have q := fold_lt cs (a * 10 + (c - 48)) fun d m => h d (List.mem_cons_of_mem _ m)
    refine Nat.lt_of_lt_of_le q ?_
    rw [List.length_cons, Nat.pow_succ]
    have : (a * 10 + (c - 48) + 1) * 10 ^ cs.length ≤ ((a + 1) * 10) * 10 ^ cs.length := Nat.mul_le_mul_right _ (by omega)
    refine Nat.le_trans this (Nat.le_of_eq ?_)
    rw [Nat.mul_assoc, Nat.mul_comm 10]
theorem fold_ge : ∀ (cs : List Nat) (a : Nat), a * 10 ^ cs.length ≤ cs.foldl (fun acc c => acc * 10 + (c - 48)) a
  | [], a => by simp
  | c :: cs, a => by
    refine Nat.le_trans ?_ (fold_ge cs (a * 10 + (c - 48)))
    rw [List.length_cons, Nat.pow_succ, ← Nat.mul_assoc, Nat.mul_right_comm]
    exact Nat.mul_le_mul_right _ (by omega)
theorem isCan_spec {z : Str} (h : isCan z = true) : AllDigits z.cps.toList ∧ 1 ≤ z.cps.size ∧ z.cps.size ≤ 6 ∧ (z.cps.size = 1 ∨ ∃ c r, z.cps.toList = c :: r ∧ 49 ≤ c) := by
  unfold isCan at h
  simp only [Bool.and_eq_true, Bool.or_eq_true, decide_eq_true_eq, Bool.not_eq_true', decide_eq_false_iff_not] at h
  obtain ⟨h1, h2, h3, h4⟩ := h
  have ad : AllDigits z.cps.toList := fun c m => by
    have q := List.all_eq_true.mp h1 c m
    simp only [dg, Bool.and_eq_true, decide_eq_true_eq] at q
    exact q
  refine ⟨ad, h2, h3, h4.imp id fun h => ?_⟩
  cases e : z.cps.toList with
  | nil =>
    have : z.cps.toList.length = 0 := by rw [e]; rfl
    simp at this
    rw [this] at h2
    exact absurd h2 (by decide)
  | cons c r =>
    rw [e] at h ad
    have hc := ad.head
    refine ⟨c, r, rfl, ?_⟩
    have : c ≠ 48 := fun e => h (by rw [e]; rfl)
    omega
theorem canon_spec {z : Str} {n : Nat} (h : canon z = some n) : isCan z = true ∧ n = digitsVal z.cps.toList ∧ PySem.intText? z = some (n : Int) ∧ Str.ofString (toString (n : Int)) = z ∧ n < 1000000 ∧ (5 < z.cps.size → 100000 ≤ n) := by
  unfold canon at h
  split at h
  · rename_i hc
    cases h
    obtain ⟨ad, h1, h2, h3⟩ := isCan_spec hc
    have hl : z.cps.toList.length = z.cps.size := Array.length_toList
    refine ⟨hc, rfl, intText_digits ad (fun e => by rw [e] at hl; rw [← hl] at h1; exact absurd h1 (by decide)) (by show z.cps.size ≤ 4300; omega), ?_, ?_, fun h5 => ?_⟩
    · have hd := toDigits_digitsVal (z.cps.size - 1) z.cps.toList (by omega) ad (h3.imp (fun e => by omega) id)
      have e2 : (Str.ofString (toString ((digitsVal z.cps.toList : Nat) : Int))).cps.toList = z.cps.toList := by
        rw [PySem.W.KIN.signs_num, hd, List.map_map]
        have : ∀ c ∈ z.cps.toList, (Char.toNat ∘ Char.ofNat) c = c := fun c m => by
          have := ad c m
          have k : ∀ n : _root_.Fin 128, (Char.ofNat n.val).toNat = n.val := by decide +kernel
          exact k ⟨c, by omega⟩
        rw [List.map_congr_left this, List.map_id']
      apply Str.ext'
      exact Array.toList_inj.mp e2
    · have := fold_lt z.cps.toList 0 fun c m => (ad c m).2
      rw [hl, Nat.zero_add, Nat.one_mul] at this
      exact Nat.lt_of_lt_of_le this (Nat.le_trans (Nat.pow_le_pow_right (by decide) h2) (by decide))
    · rcases h3 with h3 | ⟨c, r, e, hc⟩
      · omega
      · have := fold_ge r (c - 48)
        have hr : r.length = 5 := by
          have : (c :: r).length = 6 := by rw [← e, hl]; omega
          simpa using this
        rw [hr] at this
        show 100000 ≤ z.cps.toList.foldl _ 0
        rw [e, List.foldl_cons]
        refine Nat.le_trans ?_ (show (c - 48) * 10 ^ 5 ≤ r.foldl _ (0 * 10 + (c - 48)) by rw [Nat.zero_mul, Nat.zero_add]; exact this)
        exact Nat.le_trans (show 100000 ≤ 1 * 10 ^ 5 by decide) (Nat.mul_le_mul_right _ (by omega))
  · cases h
theorem dg_head {z : Str} (h : isCan z = true) : ∃ c r, z.cps.toList = c :: r ∧ dg c = true := by
  obtain ⟨ad, h1, _, _⟩ := isCan_spec h
  cases e : z.cps.toList with
  | nil =>
    have : z.cps.toList.length = 0 := by rw [e]; rfl
    simp at this
    rw [this] at h1
    exact absurd h1 (by decide)
  | cons c r =>
    rw [e] at ad
    refine ⟨c, r, rfl, ?_⟩
    have := ad.head
    simp [dg, this.1, this.2]
theorem can_noreg {z : Str} (h : isCan z = true) : regV (.str z) = false := by
  obtain ⟨c, r, e, hc⟩ := dg_head h
  cases q : regV (.str z) with
  | false => rfl
  | true =>
    exfalso
    have m : z = "r0" ∨ z = "r1" ∨ z = "r2" := by
      simp only [regV, isS, Bool.true_and, regs, inV, eqV, List.any_cons, List.any_nil, Bool.or_false, Bool.or_eq_true, beq_iff_eq] at q
      rcases q with q | q | q
      · exact .inl q.symm
      · exact .inr (.inl q.symm)
      · exact .inr (.inr q.symm)
    have k0 : ∀ y ∈ (["r0", "r1", "r2"] : List Str), y.cps.toList.head? = some 114 := by decide +kernel
    have hh : z.cps.toList.head? = some 114 := k0 z (by rcases m with rfl | rfl | rfl <;> simp)
    rw [e] at hh
    cases hh
    exact absurd hc (by decide)
theorem can_nonm {z : Str} (h : isCan z = true) : nmV (.str z) = false := by
  obtain ⟨c, r, e, hc⟩ := dg_head h
  have : z.cps.toList.all inL = false := by
    rw [e, List.all_cons]
    have : inL c = false := by
      simp only [dg, Bool.and_eq_true, decide_eq_true_eq] at hc
      simp only [inL, Bool.and_eq_false_iff, decide_eq_false_iff_not]
      omega
    rw [this]; rfl
  simp [nmV, this]
theorem fit_eq {q z : Str} (hq : q ∈ kindsL) : fitV q (figV z) = fitV q (riV q z) ∧ (fitV q (figV z) = true → figV z = riV q z) := by
  by_cases h1 : q = "R"
  · subst h1
    have e : riV "R" z = .str z := if_neg (by decide +kernel)
    rw [e, fitV_R, fitV_R]
    unfold figV
    cases c : canon z with
    | none => exact ⟨rfl, fun _ => rfl⟩
    | some n => exact ⟨(can_noreg (canon_spec c).1).symm, fun e => nomatch e⟩
  · by_cases h2 : q = "N"
    · subst h2
      have e : riV "N" z = .str z := if_neg (by decide +kernel)
      rw [e, fitV_N, fitV_N]
      unfold figV
      cases c : canon z with
      | none => exact ⟨rfl, fun _ => rfl⟩
      | some n => exact ⟨(can_nonm (canon_spec c).1).symm, fun e => nomatch e⟩
    · have hk : numK q := by
        simp only [kindsL, List.mem_cons, List.not_mem_nil, or_false] at hq
        rcases hq with h | h | h | h | h
        · exact absurd h h1
        · exact absurd h h2
        · exact .inl h
        · exact .inr (.inl h)
        · exact .inr (.inr h)
      have e : riV q z = numR z := if_pos hk
      have hb : (bnd q).2 ≤ 65535 := by
        rcases hk with rfl | rfl | rfl <;> decide +kernel
      rw [e, fitV_num _ h1 h2, fitV_num _ h1 h2]
      unfold figV numR
      cases c : canon z with
      | none =>
        dsimp only
        by_cases h5 : z.cps.size ≤ 5
        · rw [if_pos h5]
          exact ⟨rfl, fun e => nomatch e⟩
        · rw [if_neg h5]
          exact ⟨rfl, fun e => nomatch e⟩
      | some n =>
        dsimp only
        by_cases h5 : z.cps.size ≤ 5
        · rw [if_pos h5]
          exact ⟨rfl, fun _ => rfl⟩
        · rw [if_neg h5]
          have big := (canon_spec c).2.2.2.2.2 (by omega)
          have : numV (.int n) (bnd q).1 (bnd q).2 = false := by
            simp only [numV, Bool.and_eq_false_iff, decide_eq_false_iff_not]
            exact .inr (by omega)
          rw [this]
          exact ⟨rfl, fun e => nomatch e⟩
theorem fits_eq : ∀ {ks : List Str} {ts : List Str}, (∀ q ∈ ks, q ∈ kindsL) → ts.length = ks.length → (List.zipWith fitV ks (ts.map figV)).all id = (List.zipWith fitV ks (List.zipWith riV ks ts)).all id ∧ ((List.zipWith fitV ks (ts.map figV)).all id = true → ts.map figV = List.zipWith riV ks ts)
  | [], [], _, _ => ⟨rfl, fun _ => rfl⟩
  | q :: ks, t :: ts, h, hl => by
    obtain ⟨a1, a2⟩ := fit_eq (z := t) (h q (List.mem_cons_self ..))
    obtain ⟨b1, b2⟩ := fits_eq (ks := ks) (ts := ts) (fun x m => h x (List.mem_cons_of_mem _ m)) (by simpa using hl)
    simp only [List.map_cons, List.zipWith_cons_cons, List.all_cons, id]
    refine ⟨by rw [a1, b1], fun e => ?_⟩
    rw [Bool.and_eq_true] at e
    rw [a2 e.1, b2 e.2]
  | [], _ :: _, _, hl => by simp at hl
  | _ :: _, [], _, hl => by simp at hl
theorem fitA_eq {ks ts : List Str} (h : ∀ q ∈ ks, q ∈ kindsL) (hl : ts.length = ks.length) : fitA (ts.map figV) ks = fitA (List.zipWith riV ks ts) ks ∧ (fitA (ts.map figV) ks = true → ts.map figV = List.zipWith riV ks ts) := by
  obtain ⟨a, b⟩ := fits_eq h hl
  have l2 : (List.zipWith riV ks ts).length = ks.length := by rw [List.length_zipWith]; omega
  unfold fitA
  rw [List.length_map, decide_eq_true hl, decide_eq_true l2, Bool.true_and, Bool.true_and]
  exact ⟨a, b⟩
/-! ### a row read, twice -/
def kindsOf (u : Str) : Option (List V) := match findT tb_CODE_ROWS u with
  | some ks => some ks
  | none => findT tb_DATA_ROWS u
def rowOk (xs : List V) : Bool := codeO (some xs) || dataO (some xs)
def readR : List Str → Option (List V)
  | [] => none
  | u :: ts => match kindsOf u with
    | none => none
    | some ks => if ts.length = ks.length then (if rowOk (.str u :: List.zipWith riV (kS ks) ts) then some (.str u :: List.zipWith riV (kS ks) ts) else none) else none
def lawR : List Str → Option (List V)
  | [] => none
  | u :: ts => if rowOk (.str u :: ts.map figV) then some (.str u :: ts.map figV) else none
theorem kinds_spec {u : Str} {ks : List V} (h : kindsOf u = some ks) : ks = kst (kS ks) ∧ (∀ q ∈ kS ks, q ∈ kindsL) ∧ (kS ks).length ≤ 10 := by
  unfold kindsOf at h
  cases c : findT tb_CODE_ROWS u with
  | some k2 =>
    rw [c] at h
    cases h
    obtain ⟨a, b, d, _⟩ := code_kinds c
    exact ⟨a, b, d⟩
  | none =>
    rw [c] at h
    obtain ⟨a, b, d, _⟩ := data_kinds h
    exact ⟨a, b, d⟩
theorem rowOk_is (u : Str) (r : List V) : rowOk (.str u :: r) = match kindsOf u with
    | some ks => fitA r (kS ks)
    | none => false := by
  unfold rowOk kindsOf
  cases c : findT tb_CODE_ROWS u with
  | some ks =>
    rw [codeO_of c]
    cases d : findT tb_DATA_ROWS u with
    | none => rw [dataO_no d, Bool.or_false]
    | some k2 =>
      rw [dataO_of d]
      have e : k2 = ks := by
        have hm : u ∈ tb_CODE_ROWS.map (·.1) := by
          unfold findT at c
          cases e : tb_CODE_ROWS.find? (fun p => decide (p.1 = u)) with
          | none => rw [e] at c; cases c
          | some p =>
            have hz : p.1 = u := of_decide_eq_true (List.find?_some (p := fun p : Str × List V => decide (p.1 = u)) e)
            exact List.mem_map.mpr ⟨p, List.mem_of_find?_eq_some e, hz⟩
        have all : ∀ u ∈ tb_CODE_ROWS.map (·.1), (findT tb_DATA_ROWS u).isSome = true → findT tb_DATA_ROWS u = findT tb_CODE_ROWS u := by decide +kernel
        have := all u hm (by rw [d]; rfl)
        rw [c, d] at this
        exact Option.some.inj this
      rw [e, Bool.or_self]
  | none =>
    rw [codeO_no c, Bool.false_or]
    cases d : findT tb_DATA_ROWS u with
    | none => rw [dataO_no d]
    | some k2 => rw [dataO_of d]
theorem rowOk_some {u : Str} {ks r : List V} (h : kindsOf u = some ks) : rowOk (.str u :: r) = fitA r (kS ks) := by
  rw [rowOk_is, h]
theorem rowOk_none {u : Str} {r : List V} (h : kindsOf u = none) : rowOk (.str u :: r) = false := by
  rw [rowOk_is, h]
theorem kinds_len {u : Str} {ks : List V} (h : kindsOf u = some ks) : (kS ks).length = ks.length := by
  have := congrArg List.length (kinds_spec h).1
  unfold kst at this
  rw [List.length_map] at this
  exact this.symm
theorem lawR_some {u : Str} {ts : List Str} {ks : List V} (h : kindsOf u = some ks) : lawR (u :: ts) = if fitA (ts.map figV) (kS ks) = true then some (.str u :: ts.map figV) else none := by
  unfold lawR
  dsimp only
  simp only [rowOk_some h]
theorem readR_some {u : Str} {ts : List Str} {ks : List V} (h : kindsOf u = some ks) : readR (u :: ts) = if ts.length = ks.length then (if fitA (List.zipWith riV (kS ks) ts) (kS ks) = true then some (.str u :: List.zipWith riV (kS ks) ts) else none) else none := by
  unfold readR
  dsimp only
  rw [h]
  dsimp only
  simp only [rowOk_some h]
theorem read_law : ∀ ws : List Str, readR ws = lawR ws
  | [] => rfl
  | u :: ts => by
    cases c : kindsOf u with
    | none =>
      unfold readR lawR
      dsimp only
      simp only [rowOk_none c, c]
      rfl
    | some ks =>
      rw [readR_some c, lawR_some c]
      have lk := kinds_len c
      by_cases hl : ts.length = ks.length
      · rw [if_pos hl]
        obtain ⟨a, b⟩ := fitA_eq (ts := ts) (kinds_spec c).2.1 (by omega)
        rw [← a]
        cases q : fitA (ts.map figV) (kS ks) with
        | true => rw [b q]
        | false => rfl
      · rw [if_neg hl]
        have : fitA (ts.map figV) (kS ks) = false := by
          unfold fitA
          rw [List.length_map, decide_eq_false (by omega)]; rfl
        rw [this]; rfl

/-! ### zip of a list and a tuple -/
def ItzM (K : PySem.W.Frag) (a b : Addr) : It :=
  ⟨fun i H => ∃ (xs ys : List V) (x y : V), SqL K H a xs ∧ SqT K H b ys ∧ xs[i]? = some x ∧ ys[i]? = some y,
    fun i H v H' => ∃ T x y, v = .ref T ∧ H T = none ∧ H' = upd H T (.tup [x, y]) ∧ (∀ xs, SqL K H a xs → xs[i]? = some x) ∧ ∀ ys, SqT K H b ys → ys[i]? = some y,
    fun i H => ∃ xs ys : List V, SqL K H a xs ∧ SqT K H b ys ∧ i ≤ xs.length ∧ i ≤ ys.length ∧ (i = xs.length ∨ i = ys.length)⟩
theorem turn_zipM {P : Program} {w : World} {K : PySem.W.Frag} {elts : List Expr} {kk : Nat} {tpos : Pos} {a b z TI TO i1 i2 : Addr} (S : ZipSep2 z TI TO i1 i2 [i1, a] [i2, b]) (ha : a ≠ i1) (hb : b ≠ i2) :
    Turn P w K (.Tuple elts kk tpos) (ItzM K a b) [z, TI, TO, i1, i2] z (fun i h => IsZip h z TI TO .none ∧ IsTupOf2 h TI (.ref i1) (.ref i2) ∧ (∃ x y, IsTupOf2 h TO x y) ∧ h.IsListIter i1 a i ∧ h.IsTupleIter i2 b i) where
  mem := by simp
  obj := fun i h st c hc => by
    obtain ⟨hz, hTI, ⟨x, y, hTO⟩, ⟨o1, e1, _, d1⟩, ⟨o2, e2, _, d2⟩⟩ := st
    rcases (show c = z ∨ c = TI ∨ c = TO ∨ c = i1 ∨ c = i2 by simpa using hc) with rfl | rfl | rfl | rfl | rfl
    · exact ⟨_, hz, fun v q => nomatch q⟩
    · exact ⟨_, hTI, fun v q => nomatch q⟩
    · exact ⟨_, hTO, fun v q => nomatch q⟩
    · exact ⟨o1, e1, fun v q => by rw [d1] at q; cases q⟩
    · exact ⟨o2, e2, fun v q => by rw [d2] at q; cases q⟩
  keep := fun i h h' st k => by
    obtain ⟨hz, hTI, ⟨x, y, hTO⟩, h1, h2⟩ := st
    exact ⟨k z (by simp) _ hz, k TI (by simp) _ hTI, ⟨x, y, k TO (by simp) _ hTO⟩, h1.at fun o q => k i1 (by simp) o q, h2.at fun o q => k i2 (by simp) o q⟩
  item := by
    intro X hP hw hK hc i pins s σ H E I hf st hg
    subst hP hw hK
    obtain ⟨hz, hTI, ⟨x0, y0, hTO⟩, h1, h2⟩ := st
    obtain ⟨xs, ys, x, y, hqx, hqy, hx, hy⟩ := hg
    obtain ⟨its, rv, p, _⟩ := I.list hqx
    obtain ⟨its2, rv2, p2, _⟩ := I.tuple hqy
    obtain ⟨u, hu, ru⟩ := rv.get hx
    obtain ⟨u2, hu2, ru2⟩ := rv2.get hy
    have hzl : z < s.heap.objs.size := Heap.lt_size hz
    have hd : X.A.in1.handled = none := I.ok.hd hc
    have q1 : its.toArray[i]? = some u := by simpa using hu
    have q2 : its2.toArray[i]? = some u2 := by simpa using hu2
    refine wpAny_pyNext_zipD2_item S (Draws.list (A := X.A.in1) hd i1 a ha its.toArray) (Draws.tuple (A := X.A.in1) hd i2 b hb its2.toArray) hz hTI hTO ⟨h1, p.isList⟩ ⟨h2, p2⟩ (Array.getElem?_eq_some_iff.mp q1).1 (Array.getElem?_eq_some_iff.mp q2).1 fun x1 x2 h' tk P1 P2 z' TO' st1 st2 hT hsz hk => ?_
    obtain rfl : x1 = u := by rw [q1] at P1; exact (Option.some.inj P1).symm
    obtain rfl : x2 = u2 := by rw [q2] at P2; exact (Option.some.inj P2).symm
    refine ⟨_, rfl, wpAny_letOwnedTupleGo_zip (s := { s with heap := h', toks := tk }) z' fun h'' z'' sb => ?_⟩
    have hT2 : h''.get? s.heap.objs.size = some { cls := .type "tuple", data := .seq #[x1, x2] } := (sb.2 _ (Nat.ne_of_gt hzl)).trans hT
    have new : ObjOk X.prog X.w (upd H s.heap.objs.size (.tup [x, y])) h'' s.heap.objs.size (.tup [x, y]) :=
      ⟨by show 2 ≤ sizeLine; decide, [x1, x2], .cons ru (.cons ru2 .nil), ⟨_, hT2, rfl, _, rfl⟩⟩
    have I1 : Inv X pins σ (upd H s.heap.objs.size (.tup [x, y])) { s with heap := h'', toks := tk } :=
      I.turnedNew (t' := tk) (ch := [z, TI, TO, i1, i2]) (fun c o hb q => (sb.2 c (fun q' => hb (by simp [q']))).trans (hk c o (fun q' => hb (by simp [q'])) (fun q' => hb (by simp [q'])) (fun q' => hb (by simp [q'])) (fun q' => hb (by simp [q'])) q)) hf (Nat.le_refl _) new
    refine ⟨.ref s.heap.objs.size, _, I1, rfl, ⟨_, x, y, rfl, I.hok.fresh (Nat.le_refl _), rfl, fun l hl => by rw [I.list_inj hl hqx]; exact hx, fun l hl => by rw [I.tuple_inj hl hqy]; exact hy⟩, ⟨z'', ?_, ⟨x1, x2, ?_⟩, ?_, ?_⟩, fun c hcm => ?_⟩
    · exact (sb.2 _ S.TIz).trans (hk _ _ S.TIz S.TITO S.TIi1 S.TIi2 hTI)
    · exact (sb.2 _ S.TOz).trans TO'
    · exact st1.1.at fun o q => (sb.2 _ S.zi1.symm).trans q
    · exact st2.1.at fun o q => (sb.2 _ S.zi2.symm).trans q
    · have hlt : c < s.heap.objs.size := by
        rcases (show c = z ∨ c = TI ∨ c = TO ∨ c = i1 ∨ c = i2 by simpa using hcm) with q | q | q | q | q
        · rw [q]; exact hzl
        · rw [q]; exact Heap.lt_size hTI
        · rw [q]; exact Heap.lt_size hTO
        · rw [q]; obtain ⟨_, e1, _⟩ := h1; exact Heap.lt_size e1
        · rw [q]; obtain ⟨_, e2, _⟩ := h2; exact Heap.lt_size e2
      rw [upd_ne (Nat.ne_of_lt hlt)]
      exact (hf c hcm).1
  done := by
    intro X hP hw hK hc i pins s σ H E I hf st hg
    subst hP hw hK
    obtain ⟨hz, hTI, ⟨x0, y0, hTO⟩, h1, h2⟩ := st
    obtain ⟨xs, ys, hqx, hqy, le1, le2, hend⟩ := hg
    obtain ⟨its, rv, p, _⟩ := I.list hqx
    obtain ⟨its2, rv2, p2, _⟩ := I.tuple hqy
    have l1 := rv.length
    have l2 := rv2.length
    have hd : X.A.in1.handled = none := I.ok.hd hc
    refine wpAny_pyNext_zipD2_end S (Draws.list (A := X.A.in1) hd i1 a ha its.toArray) (Draws.tuple (A := X.A.in1) hd i2 b hb its2.toArray) hz hTI hTO ⟨h1, p.isList⟩ ⟨h2, p2⟩ (by simp; omega) (by simp; omega) (by simp; omega) fun h' tk hk => ⟨rfl, I.turnedL (t' := tk) (ch := [z, TI, TO, i1, i2]) (fun c o hb q =>
      hk c o (fun q' => hb (by simp [q'])) (fun q' => hb (by simp [q'])) (fun q' => hb (by simp [q'])) (fun q' => hb (by simp [q'])) q) hf⟩
  self := fun A i s Q E st h => wpAny_pyIter_zip st.1 h
def iZipM (K : PySem.W.Frag) (ta : TA) : TI := fun σ H R => ta σ H fun vs H1 => ∃ a b xs ys, vs = [.ref a, .ref b] ∧ SqL K H1 a xs ∧ SqT K H1 b ys ∧ R (ItzM K a b) H1
theorem pi_zipM {X : Cx} {e e2 : Expr} {ta : TA} {p pos tpos : Pos} {elts : List Expr} {kk : Nat} (hg : Gl X "zip") (hm : X.mg "zip" = none) (ha : PA X [e, e2] ta)
    (hs : starEach [e, e2] X.env = (false, eval e X.env) :: starEach [e2] X.env := by rfl) (hpl : (backTo pos (starEach [e2] X.env)).any (·.1) = false := by rfl) :
    PI X (.Tuple elts kk tpos) (.Call (.Name "zip" p) [e, e2] [] pos) (iZipM X.K ta) := by
  refine ⟨fun pins s σ H R I h => ?_⟩
  refine Call_ (ld_blt I hg hm PyProof.Rows.boot_zip (PyProof.Rows.callWith_type1 (thn (ha.run pos pins s σ H _ I h) fun us s1 ⟨vs, H1, I1, r1, q1⟩ => ?_) hs hpl))
  obtain ⟨a, b, xs, ys, ex, hqx, hqy, q⟩ := q1
  subst ex
  cases r1 with
  | cons r rr =>
    cases rr with
    | cons r' rr =>
      cases rr
      cases r
      cases r'
      have fresh5 : ∀ c, c ∈ [s1.heap.objs.size + 4, s1.heap.objs.size + 2, s1.heap.objs.size + 3, s1.heap.objs.size, s1.heap.objs.size + 1] → FpOk X pins H1 c := fun c hcm => by
        have hle : s1.heap.objs.size ≤ c := by
          rcases (show c = s1.heap.objs.size + 4 ∨ c = s1.heap.objs.size + 2 ∨ c = s1.heap.objs.size + 3 ∨ c = s1.heap.objs.size ∨ c = s1.heap.objs.size + 1 by simpa using hcm) with z | z | z | z | z
          · rw [z]; exact Nat.le_add_right _ _
          · rw [z]; exact Nat.le_add_right _ _
          · rw [z]; exact Nat.le_add_right _ _
          · rw [z]; exact Nat.le_refl _
          · rw [z]; exact Nat.le_add_right _ _
        exact I1.fpOk hle (I1.hok.fresh hle)
      obtain ⟨its, rv, p1, _⟩ := I1.list hqx
      obtain ⟨its2, rv2, p2, _⟩ := I1.tuple hqy
      have la : a < s1.heap.objs.size := by obtain ⟨o, e, _⟩ := p1.isList; exact Heap.lt_size e
      have lb : b < s1.heap.objs.size := by obtain ⟨o, e, _⟩ := p2; exact Heap.lt_size e
      refine zip_begins2 (begins_list a its.toArray) (begins_tuple b its2.toArray) p1.isList p2 fun h' hz hTI hTO h1 h2 hsz hk => wpAny_pyIter_zip hz ?_
      have I2 : Inv X pins σ H1 { s1 with heap := h' } := I1.kept (t' := s1.toks) hk
      have S := zip_sep2 (N := s1.heap.objs.size) (fp1 := [a]) (fp2 := [b]) (fun c m => by rw [List.mem_singleton.mp m]; exact la) (fun c m => by rw [List.mem_singleton.mp m]; exact lb)
      exact ⟨s1.heap.objs.size + 4, [s1.heap.objs.size + 4, s1.heap.objs.size + 2, s1.heap.objs.size + 3, s1.heap.objs.size, s1.heap.objs.size + 1], _, _, H1, rfl, I2, turn_zipM S (Nat.ne_of_lt la) (Nat.ne_of_lt (Nat.lt_succ_of_lt lb)), ⟨hz, hTI, ⟨_, _, hTO⟩, ⟨_, h1, rfl, rfl⟩, ⟨_, h2, rfl, rfl⟩⟩, fresh5, q⟩
theorem walk_zipM {K : PySem.W.Frag} {a b : Addr} {xs ys : List V} {n : Nat} (hn : n = min xs.length ys.length) : Walk (ItzM K a b) n (fun H => SqL K H a xs ∧ SqT K H b ys) (YPair (fun i => xs[i]?) (fun i => ys[i]?)) := by
  subst hn
  refine ⟨fun i _ hi q => ?_, fun _ q => ⟨xs, ys, q.1, q.2, by omega, by omega, by omega⟩, fun i H v H' _ q y => ?_⟩
  · have h1 : i < xs.length := by omega
    have h2 : i < ys.length := by omega
    exact ⟨xs, ys, xs[i], ys[i], q.1, q.2, by simp [h1], by simp [h2]⟩
  · obtain ⟨T, x, z, h1, h2, h3, h4, h5⟩ := y
    exact ⟨T, x, z, h1, h2, h3, h4 xs q.1, h5 ys q.2⟩

open PySem.NumText (AllDigits digitsVal toDigits_digitsVal)
section
theorem uni_dg {c : Nat} (h : c < 128) : Unicode.isDigit c = dg c := by
  have q := PySem.W.os_isdigit h
  unfold Txt.isdigit at q
  simpa [Str.length, dg] using q
theorem asc_dig (z : Str) : (Txt.isascii z && Txt.isdigit z) = (z.cps.toList.all dg && decide (1 ≤ z.cps.size)) := by
  unfold Txt.isascii Txt.isdigit
  rw [← Array.all_toList, ← Array.all_toList]
  have e : ∀ l : List Nat, (l.all (fun c => decide (c < 128)) && l.all Unicode.isDigit) = l.all dg := by
    intro l
    induction l with
    | nil => rfl
    | cons c l ih =>
      simp only [List.all_cons]
      by_cases h : c < 128
      · rw [uni_dg h, decide_eq_true h, Bool.true_and, ← ih]
        cases dg c <;> simp
      · have : dg c = false := by
          simp only [dg, Bool.and_eq_false_iff, decide_eq_false_iff_not]
          omega
        rw [decide_eq_false h, this]
        simp
  rw [← e]
  have : (decide (z.length > 0)) = decide (1 ≤ z.cps.size) := by
    show decide (z.cps.size > 0) = _
    rfl
  rw [this]
  cases decide (1 ≤ z.cps.size) <;> simp
theorem starts0 (z : Str) : Txt.startswith z "0" = decide (z.cps.toList.head? = some 48) := by
  unfold Txt.startswith PySem.Builtin.Str.subAt
  have l1 : ("0" : Str).length = 1 := by decide +kernel
  have c1 : ("0" : Str).cps = #[48] := by decide +kernel
  rw [l1, c1]
  obtain ⟨⟨cs⟩⟩ := z
  cases cs with
  | nil => rfl
  | cons c r =>
    have e : ((c :: r).toArray.extract 0 (0 + 1)) = #[c] := by simp
    show (decide (0 + 1 ≤ (c :: r).length) && ((c :: r).toArray.extract 0 (0 + 1) == #[48])) = decide (some c = some 48)
    rw [e, decide_eq_true (by rw [List.length_cons]; omega), Bool.true_and]
    by_cases h : c = 48
    · subst h; rfl
    · rw [decide_eq_false (fun e => h (Option.some.inj e))]
      have : (#[c] == #[48]) = (c == 48) := by simp
      rw [this]
      exact beq_false_of_ne h
theorem zero_of {z : Str} (h : z.cps.toList.head? = some 48) (h1 : z.cps.size = 1) : z = "0" := by
  apply Str.ext'
  apply Array.toList_inj.mp
  have hl : z.cps.toList.length = 1 := by rw [← h1]; exact Array.length_toList
  have e : ("0" : Str).cps.toList = [48] := by decide +kernel
  rw [e]
  match hz : z.cps.toList, hl with
  | [c], _ =>
    rw [hz] at h
    cases h
    rfl
/-- a number's text, by the tests of the program -/
theorem numR_long {z : Str} (h : 5 < z.cps.size) : numR z = .non := if_neg (by omega)
theorem numR_bad {z : Str} (h : (z.cps.toList.all dg && decide (1 ≤ z.cps.size)) = false) : numR z = .non := by
  have : isCan z = false := by
    unfold isCan
    rw [← Bool.and_assoc, h]; rfl
  unfold numR canon
  rw [this]
  split <;> rfl
theorem numR_zero {z : Str} (h : z.cps.toList.head? = some 48) (n : z ≠ "0") : numR z = .non := by
  have : isCan z = false := by
    unfold isCan
    have h1 : decide (z.cps.size = 1) = false := decide_eq_false fun e => n (zero_of h e)
    rw [h1, decide_eq_true h]
    simp
  unfold numR canon
  rw [this]
  split <;> rfl
theorem can_of {z : Str} (h : (z.cps.toList.all dg && decide (1 ≤ z.cps.size)) = true) (h6 : z.cps.size ≤ 6) (h0 : z.cps.toList.head? = some 48 → z = "0") : isCan z = true := by
  rw [Bool.and_eq_true] at h
  unfold isCan
  rw [h.1, h.2, decide_eq_true h6, Bool.true_and, Bool.true_and, Bool.true_and, Bool.or_eq_true]
  by_cases q : z.cps.toList.head? = some 48
  · left
    rw [h0 q]
    decide +kernel
  · right
    rw [decide_eq_false q]; rfl
end
section
variable {P : Program} {w : World} {K : PySem.W.Frag} {mg : Str → Option Value} {base : Heap} {Z : Fs}
def sp_kinds (K : PySem.W.Frag) : Sp := fun vs H Q _ => ∃ (u : Str), vs = [.str u] ∧ (kindsOf u = none → Q .non H) ∧ ∀ ks t, kindsOf u = some ks → (∀ H' : Hp, SqT K H' t ks) → Q (.ref t) H
theorem ok_kinds_of (T : Txt K w mg Z) : FnOk P w K mg base CX0 1 Z.a_kinds_of Z.d_kinds_of ["word"] (sp_kinds K) := by
  refine T.F_kinds_of.ok sc_kinds_of (fun vs H Q E h => ?_) (fun cdv A outer s H vs Q E hr h => ?_)
  · obtain ⟨u, rfl, _⟩ := h
    rfl
  · obtain ⟨u, rfl, k1, k2⟩ := h
    refine ⟨_, (pss_cons (ps_if (pt_cmpR (op_in_kd T.D_CODE_ROWS) (pv 0) (pe_glob (v := .ref Z.c_CODE_ROWS) (by rfl) T.g_CODE_ROWS rfl) (by rfl)) (pss_one (ps_ret (pe_ix ix_kdict (pe_glob (v := .ref Z.c_CODE_ROWS) (by rfl) T.g_CODE_ROWS rfl) (pv 0) (fun _ _ => rfl)))) pss_nil)
      (pss_one (ps_ret (pe_kget T.D_DATA_ROWS (pe_glob (v := .ref Z.c_DATA_ROWS) (by rfl) T.g_DATA_ROWS rfl) (pv 0) ⟨rfl, rfl, rfl, rfl⟩)))), ?_⟩
    obtain ⟨r, q1, q2⟩ := T.x_CODE_ROWS u
    obtain ⟨i1, i2⟩ := relO_d q2
    refine ⟨_, rfl, _, r, rfl, rfl, q1, _, rfl, ?_⟩
    rw [i1]
    cases hf : findT tb_CODE_ROWS u with
    | some ks =>
      obtain ⟨v, rfl, t, rfl, ht⟩ := i2 _ hf
      exact iteT ⟨_, rfl, _, u, .ref t, rfl, rfl, ⟨_, _, _, T.D_CODE_ROWS.at_, T.D_CODE_ROWS.lit, q1, rfl⟩, k2 ks t (by unfold kindsOf; rw [hf]) ht⟩
    | none =>
      obtain ⟨r', q1', q2'⟩ := T.x_DATA_ROWS u
      obtain ⟨i1', i2'⟩ := relO_d q2'
      refine iteF ⟨rfl, .str u, rfl, u, r', rfl, q1', fun v hv => ?_, fun hn => ?_⟩
      · cases hd : findT tb_DATA_ROWS u with
        | none =>
          rw [hv, hd] at i1'
          cases i1'
        | some ks =>
          obtain ⟨v', e', t, rfl, ht⟩ := i2' _ hd
          rw [hv] at e'
          cases e'
          exact ⟨.ref t, rfl, k2 ks t (by unfold kindsOf; rw [hf]; exact hd) ht⟩
      · cases hd : findT tb_DATA_ROWS u with
        | none => exact k1 (by unfold kindsOf; rw [hf]; exact hd)
        | some ks =>
          rw [hn, hd] at i1'
          cases i1'
def sp_num (K : PySem.W.Frag) : Sp := fun vs H Q _ => ∃ (z : Str), vs = [.str z] ∧ StrK z ∧ Q (numR z) H
theorem ok_read_number (T : Txt K w mg Z) : FnOk P w K mg base CX0 1 Z.a_read_number Z.d_read_number ["text"] (sp_num K) := by
  refine T.F_read_number.ok sc_read_number (fun vs H Q E h => ?_) (fun cdv A outer s H vs Q E hr h => ?_)
  · obtain ⟨z, rfl, _⟩ := h
    rfl
  · obtain ⟨z, rfl, hz, k⟩ := h
    refine ⟨_, (pss_cons (ps_if (PW.pt (pw_or (pt_cmpR op_gt (pe_callB call_len (by rfl) T.n_len boot_len (pa_cons (pv 0) pa_nil)) (pe_glob (v := .int 5) (by rfl) (Classical.choose_spec T.g_MOST_DIGITS) ⟨_, rfl⟩) (nomark _)) (pw_or (pt_not (pt_val (pe_m0 PySem.F.slot_str_isascii PySem.F.type_str_isascii mt_isascii (pv 0)))) (pw_or1 (pt_not (pt_val (pe_m0 PySem.F.slot_str_isdigit PySem.F.type_str_isdigit mt_isdigit (pv 0)))))))) (pss_one (ps_ret pe_non)) pss_nil)
      (pss_cons (ps_if (PW.pt (pw_and (pt_val (pe_m1 PySem.F.slot_str_startswith PySem.F.type_str_startswith mt_startswith (pv 0) pe_str)) (pw_and1 (pt_cmpR op_ne (pv 0) pe_str (nomark _))))) (pss_one (ps_ret pe_non)) pss_nil)
      (pss_one (ps_ret (pe_callTy call_int_str (by rfl) T.n_int boot_int (pa_cons (pv 0) pa_nil)))))), ?_⟩
    refine ⟨.str z, rfl, .str z, z.cps.size, rfl, ⟨Nat.le_trans hz.1 (by decide), rfl⟩, _, _, rfl, rfl, _, rfl, ?_⟩
    by_cases h5 : 5 < z.cps.size
    · rw [decide_eq_true (show (5 : Int) < (z.cps.size : Int) by omega)]
      rw [numR_long h5] at k
      exact iteT (iteT k)
    rw [decide_eq_false (show ¬ (5 : Int) < (z.cps.size : Int) by omega)]
    have ad := asc_dig z
    refine iteF ⟨.str z, rfl, ⟨z, rfl⟩, z, rfl, rfl, trivial, _, rfl, ?_⟩
    cases ha : Txt.isascii z with
    | false =>
      rw [ha, Bool.false_and] at ad
      rw [numR_bad ad.symm] at k
      exact iteT (iteT k)
    | true =>
      refine iteF ⟨.str z, rfl, ⟨z, rfl⟩, z, rfl, rfl, trivial, _, rfl, ?_⟩
      cases hd : Txt.isdigit z with
      | false =>
        rw [ha, hd] at ad
        rw [numR_bad ad.symm] at k
        exact iteT k
      | true =>
        rw [ha, hd] at ad
        refine iteF ⟨.str z, rfl, ⟨z, rfl⟩, z, _, rfl, rfl, _, rfl, ?_⟩
        rw [starts0]
        have fin : (z.cps.toList.head? = some 48 → z = "0") → ∃ a n, [V.str z] = [V.str a] ∧ PySem.intText? a = some n ∧ a.length ≤ 640 ∧ Q (V.int n) H := fun h0 => by
          have hc : isCan z = true := can_of ad.symm (by omega) h0
          have cn : canon z = some (digitsVal z.cps.toList) := if_pos hc
          refine ⟨z, _, rfl, (canon_spec cn).2.2.1, Nat.le_trans (show z.cps.size ≤ 5 by omega) (by decide), ?_⟩
          unfold numR at k
          rw [if_pos (by omega), cn] at k
          exact k
        by_cases h0 : z.cps.toList.head? = some 48
        · rw [decide_eq_true h0]
          refine iteT ⟨.str z, rfl, rfl, _, rfl, ?_⟩
          show if (!decide (V.str z = V.str "0")) = true then _ else _
          by_cases hz0 : z = "0"
          · rw [decide_eq_true (congrArg V.str hz0)]
            exact iteF ⟨.str z, rfl, fin fun _ => hz0⟩
          · rw [decide_eq_false fun e => hz0 (V.str.inj e)]
            rw [numR_zero h0 hz0] at k
            exact iteT k
        · rw [decide_eq_false h0]
          exact iteF (iteF ⟨.str z, rfl, fin fun e => absurd e h0⟩)
def sp_item (K : PySem.W.Frag) : Sp := fun vs H Q _ => ∃ (z q : Str), vs = [.str z, .str q] ∧ StrK z ∧ q ∈ kindsL ∧ Q (riV q z) H
theorem ok_read_item (T : Txt K w mg Z) : FnOk P w K mg base CX0 2 Z.a_read_item Z.d_read_item ["text", "kind"] (sp_item K) := by
  have G_read_number : FnOk P w K mg base CX0 1 Z.a_read_number Z.d_read_number ["text"] (sp_num K) := ok_read_number T
  refine T.F_read_item.ok sc_read_item (fun vs H Q E h => ?_) (fun cdv A outer s H vs Q E hr h => ?_)
  · obtain ⟨z, q, rfl, _⟩ := h
    rfl
  · obtain ⟨z, q, rfl, hz, hq, k⟩ := h
    refine ⟨_, (pss_cons (ps_if (pt_cmpR (op_in_kd T.D_BOUNDS) (pv 1) (pe_glob (v := .ref Z.c_BOUNDS) (by rfl) T.g_BOUNDS rfl) (by rfl)) (pss_one (ps_ret (pe_call G_read_number (hr.mono (by omega)) (by rfl) T.m_read_number T.F_read_number.kp T.b_read_number .nil pass0 (pa_cons (pv 0) pa_nil)))) pss_nil)
      (pss_one (ps_ret (pv 0)))), ?_⟩
    obtain ⟨r, q1, q2⟩ := T.x_BOUNDS q
    obtain ⟨i1, i2⟩ := relO_d q2
    refine ⟨_, rfl, _, r, rfl, rfl, q1, _, rfl, ?_⟩
    rw [i1]
    have e : (findT tb_BOUNDS q).isSome = decide (numK q) := by
      have all : ∀ q ∈ kindsL, (findT tb_BOUNDS q).isSome = decide (numK q) := by decide +kernel
      exact all q hq
    rw [e]
    unfold riV at k
    by_cases c : numK q
    · rw [if_pos c] at k
      rw [decide_eq_true c]
      exact iteT ⟨.str z, rfl, z, rfl, hz, k⟩
    · rw [if_neg c] at k
      rw [decide_eq_false c]
      exact iteF ⟨.str z, rfl, k⟩
def okT (x : V) : Prop := (∃ z : Str, x = .str z ∧ z.length ≤ 100000) ∨ ∃ n : Nat, x = .int n ∧ n < 1000000
theorem log2N {n : Nat} (h : n < 1000000) : (n : Int).natAbs.log2 < 1920 := by
  show n.log2 < 1920
  by_cases c : n = 0
  · rw [c]; decide
  · have q : n.log2 < 20 := (Nat.log2_lt c).mpr (Nat.lt_of_lt_of_le h (by decide))
    omega
theorem strOf_len {x : V} (h : okT x) : (strOf x).length ≤ 100000 := by
  rcases h with ⟨z, rfl, h⟩ | ⟨n, rfl, h⟩
  · exact h
  · show (Str.ofString (toString ((n : Nat) : Int))).length ≤ _
    have e := int_text_length_le10 (a := (n : Int)) (k := 6) (by decide) (by show n < 10 ^ 6; exact h)
    rw [PySem.ofString_length]
    omega
theorem sum_le : ∀ (l : List Nat) (n : Nat), (∀ x ∈ l, x ≤ n) → l.sum ≤ l.length * n
  | [], _, _ => by simp
  | x :: l, n, h => by
    have a := h x (List.mem_cons_self ..)
    have b := sum_le l n fun y m => h y (List.mem_cons_of_mem _ m)
    rw [List.sum_cons, List.length_cons, Nat.add_mul, Nat.one_mul]
    omega
def rtext (xs : List V) : Str := Txt.join " " (xs.map strOf)
def sp_rtext (K : PySem.W.Frag) : Sp := fun vs H Q _ => ∃ (a : Addr) (xs : List V), vs = [.ref a] ∧ SqT K H a xs ∧ (∀ x ∈ xs, okT x) ∧ xs.length ≤ 20 ∧ ∀ H' : Hp, Same H H' → Q (.str (rtext xs)) H'
theorem ok_row_text (T : Txt K w mg Z) : FnOk P w K mg base CX0 1 Z.a_row_text Z.d_row_text ["row"] (sp_rtext K) := by
  refine T.F_row_text.ok sc_row_text (fun vs H Q E h => ?_) (fun cdv A outer s H vs Q E hr h => ?_)
  · obtain ⟨a, xs, rfl, _⟩ := h
    rfl
  · obtain ⟨a, xs, rfl, hx, hk, hl, k⟩ := h
    refine ⟨_, (pss_one (ps_ret (pe_join pe_str (pe_lc (own := [("item", 1)]) (g := gName 1) (tt := tYes) rfl sc_row_text.nd (pi_tup (pv 0)) (blkOk_by (N := N_row_text) (sc := defScope s_row_text) (by decide +kernel)) (fun _ _ _ _ _ => pg_name (i := 1) sc_row_text.nd rfl (Or.inl rfl)) (fun _ _ _ _ _ => pts_nil) (fun _ _ _ _ _ => (pe_callTy call_strA (by rfl) T.n_str boot_str (pa_cons (pv 1) pa_nil))))))), ?_⟩
    refine ⟨⟨_, rfl⟩, .ref a, rfl, a, rfl, ⟨xs, hx⟩, fun D hD => ?_⟩
    refine lc_it (walk_tup (K := K) (xs := xs)) (fun i H' => Same H H' ∧ H' D = some (.lst (((xs.take i).map strOf).map V.str))) ⟨Same.new hD, upd_same⟩ (fun i H' _ q => Same.sqT q.1 hx) ?_ ?_
    · rintro i v H2 H3 hi ⟨s2, e2⟩ ⟨rfl, hv⟩
      have hv' : xs[i]? = some v := hv
      have lb : (((xs.take i).map strOf).map V.str).length < sizeLine := by
        rw [List.length_map, List.length_map]
        exact Nat.lt_of_le_of_lt (List.length_take_le _ _) (Nat.lt_of_lt_of_le hi (Nat.le_trans hl (by decide)))
      have fin : Same H (upd H3 D (.lst (((xs.take i).map strOf).map V.str ++ [V.str (strOf v)]))) ∧ (upd H3 D (.lst (((xs.take i).map strOf).map V.str ++ [V.str (strOf v)]))) D = some (.lst (((xs.take (i + 1)).map strOf).map V.str)) := by
        refine ⟨Same.put s2 hD, ?_⟩
        rw [upd_same, take_snoc strOf hv', List.map_append]
        rfl
      rcases hk v (List.mem_of_getElem? hv') with ⟨z, rfl, hz⟩ | ⟨n, rfl, hn⟩
      · exact ⟨rfl, .str z, rfl, .inl ⟨z, rfl, _, e2, lb, fin⟩⟩
      · exact ⟨rfl, .int n, rfl, .inr ⟨n, rfl, log2N hn, _, e2, lb, fin⟩⟩
    · rintro H' ⟨s2, e2⟩
      rw [List.take_length] at e2
      refine ⟨_, D, xs.map strOf, rfl, rfl, .inl (SqL.of e2), ?_, k _ s2⟩
      have l1 : (" " : Str).length = 1 := by decide +kernel
      rw [l1, List.length_map]
      have := sum_le ((xs.map strOf).map (·.length)) 100000 (by
        intro y m
        obtain ⟨z, mz, rfl⟩ := List.mem_map.mp m
        obtain ⟨x, mx, rfl⟩ := List.mem_map.mp mz
        exact strOf_len (hk x mx))
      rw [List.length_map, List.length_map] at this
      have : xs.length * 100000 ≤ 20 * 100000 := Nat.mul_le_mul_right _ hl
      omega
/-- what stands in a text's parts -/
theorem parts_spec (z : Str) : ∃ u ts, Txt.split z " " = u :: ts ∧ Str.join " " (u :: ts) = z := by
  have e := StrLaws.join_split z " "
  cases h : Txt.split z " " with
  | nil =>
    rw [h] at e
    have z0 : z = "" := by rw [← e]; rfl
    subst z0
    exact absurd h (by decide +kernel)
  | cons u ts =>
    rw [h] at e
    exact ⟨u, ts, rfl, e⟩
theorem join_mem (y : Str) : ∀ (ps : List Str), ∀ p ∈ ps, (∀ c ∈ p.cps.toList, c ∈ (Str.join y ps).cps.toList) ∧ p.cps.size ≤ (Str.join y ps).cps.size
  | [x], p, m => by
    rw [List.mem_singleton.mp m]
    exact ⟨fun c h => h, Nat.le_refl _⟩
  | x :: q :: r, p, m => by
    have e : Str.join y (x :: q :: r) = x ++ y ++ Str.join y (q :: r) := rfl
    rw [e]
    have ec : (x ++ y ++ Str.join y (q :: r)).cps.toList = x.cps.toList ++ y.cps.toList ++ (Str.join y (q :: r)).cps.toList := by
      rw [Str.cps_append, Str.cps_append, Array.toList_append, Array.toList_append]
    have es : (x ++ y ++ Str.join y (q :: r)).cps.size = x.cps.size + y.cps.size + (Str.join y (q :: r)).cps.size := by
      rw [Str.cps_append, Str.cps_append, Array.size_append, Array.size_append]
    rw [ec, es]
    rcases List.mem_cons.mp m with rfl | m
    · exact ⟨fun c h => List.mem_append_left _ (List.mem_append_left _ h), by omega⟩
    · obtain ⟨a, b⟩ := join_mem y (q :: r) p m
      exact ⟨fun c h => List.mem_append_right _ (a c h), by omega⟩
  | [], p, m => nomatch m
theorem join_count (y : Str) (hy : y.cps.size = 1) : ∀ (ps : List Str), ps.length ≤ (Str.join y ps).cps.size + 1
  | [] => Nat.zero_le _
  | [x] => by show 1 ≤ _; omega
  | x :: q :: r => by
    have e : Str.join y (x :: q :: r) = x ++ y ++ Str.join y (q :: r) := rfl
    have es : (x ++ y ++ Str.join y (q :: r)).cps.size = x.cps.size + y.cps.size + (Str.join y (q :: r)).cps.size := by
      rw [Str.cps_append, Str.cps_append, Array.size_append, Array.size_append]
    have ih := join_count y hy (q :: r)
    rw [e, es]
    rw [List.length_cons]
    omega
theorem split_parts {z u : Str} {ts : List Str} (h : Txt.split z " " = u :: ts) (hz : StrK z) : (∀ p ∈ u :: ts, StrK p) ∧ (u :: ts).length ≤ z.cps.size + 1 := by
  obtain ⟨u', ts', e, j⟩ := parts_spec z
  rw [h] at e
  cases e
  refine ⟨fun p m => ?_, ?_⟩
  · obtain ⟨a, b⟩ := join_mem " " _ p m
    rw [j] at a b
    exact ⟨Nat.le_trans b hz.1, fun c hc => hz.2 c (a c hc)⟩
  · have := join_count " " (by decide +kernel) (u :: ts)
    rw [j] at this
    exact this
/-- what reading a value gives -/
def rdV : V → Option (List V)
  | .str z => readR (Txt.split z " ")
  | _ => none
theorem riV_okv {K : PySem.W.Frag} {H : Hp} {b : Addr} {n : Nat} {q z : Str} (hz : StrK z) : Okv K H b n (riV q z) := by
  unfold riV numR
  split
  · split
    · cases canon z with
      | none => exact .non
      | some n => exact .int
    · exact .non
  · exact .str hz
def sp_read (K : PySem.W.Frag) : Sp := fun vs H Q _ => ∃ (v : V) (b : Addr) (n : Nat), vs = [v] ∧ Okv K H b n v ∧ (rdV v = none → ∀ H' : Hp, Same H H' → Q .non H') ∧ ∀ xs, rdV v = some xs → ∀ (H' : Hp) (p : Addr), Same H H' → H p = none → H' p = some (.tup xs) → Q (.ref p) H'
theorem ok_read_row (T : Txt K w mg Z) : FnOk P w K mg base CX0 5 Z.a_read_row Z.d_read_row ["text"] (sp_read K) := by
  have G_kinds_of : FnOk P w K mg base CX0 1 Z.a_kinds_of Z.d_kinds_of ["word"] (sp_kinds K) := ok_kinds_of T
  have G_read_item : FnOk P w K mg base CX0 2 Z.a_read_item Z.d_read_item ["text", "kind"] (sp_item K) := ok_read_item T
  have G_is_code_row : FnOk P w K mg base CX0 4 Z.a_is_code_row Z.d_is_code_row ["value"] (sp_is_code_row K) := ok_is_code_row T
  have G_is_data_row : FnOk P w K mg base CX0 4 Z.a_is_data_row Z.d_is_data_row ["value"] (sp_is_data_row K) := ok_is_data_row T
  refine T.F_read_row.ok sc_read_row (fun vs H Q E h => ?_) (fun cdv A outer s H vs Q E hr h => ?_)
  · obtain ⟨v, b, n, rfl, _⟩ := h
    rfl
  · obtain ⟨v, b, n, rfl, ok, k1, k2⟩ := h
    refine ⟨_, (pss_cons (ps_if (pt_not (pt_val (pe_callB call_isi (by rfl) T.n_isinstance boot_isinstance (pa_cons (pv 0) (pa_cons (pe_bltn (v := .ty "str") (by rfl) T.n_str boot_str rfl) pa_nil))))) (pss_one (ps_ret pe_non)) pss_nil)
      (pss_cons (ps_asg (pe_split (pv 0) pe_str) (pg_tupS (by rfl) (pgs_cons (pg_name (i := 1) sc_read_row.nd rfl (Or.inl rfl)) (pgs_star (pg_name (i := 2) sc_read_row.nd rfl (Or.inl rfl)) pgs_nil))))
      (pss_cons (ps_set (i := 3) sc_read_row.nd rfl (Or.inl rfl) (pe_call G_kinds_of (hr.mono (by omega)) (by rfl) T.m_kinds_of T.F_kinds_of.kp T.b_kinds_of .nil pass0 (pa_cons (pv 1) pa_nil)))
      (pss_cons (ps_if (PW.pt (pw_or (pt_cmp (pc_isN (pv 3))) (pw_or1 (pt_cmpR op_ne (pe_callB call_len (by rfl) T.n_len boot_len (pa_cons (pv 2) pa_nil)) (pe_callB call_len (by rfl) T.n_len boot_len (pa_cons (pv 3) pa_nil)) (nomark _))))) (pss_one (ps_ret pe_non)) pss_nil)
      (pss_cons (ps_set (i := 4) sc_read_row.nd rfl (Or.inl rfl) (pe_tup (pa_cons (pv 1) (StX.pa_star (pe_lc (own := [("item", 5), ("kind", 6)]) (g := gTup K 2 (gCons (gName 5) (gCons (gName 6) gNil))) (tt := tYes) rfl sc_read_row.nd (pi_zipM (by rfl) T.n_zip (pa_cons (pv 2) (pa_cons (pv 3) pa_nil))) (blkOk_by (N := N_read_row) (sc := defScope s_read_row) (by decide +kernel)) (fun _ _ _ _ _ => pg_tup rfl (pgs_cons (pg_name (i := 5) sc_read_row.nd rfl (Or.inl rfl)) (pgs_cons (pg_name (i := 6) sc_read_row.nd rfl (Or.inl rfl)) pgs_nil))) (fun _ _ _ _ _ => pts_nil) (fun _ _ _ _ _ => (pe_call G_read_item (hr.mono (by omega)) (by rfl) T.m_read_item T.F_read_item.kp T.b_read_item .nil pass0 (pa_cons (pv 5) (pa_cons (pv 6) pa_nil))))) pa_nil))))
      (pss_cons (ps_if (PW.pt (pw_or (pt_val (pe_call G_is_code_row (hr.mono (by omega)) (by rfl) T.m_is_code_row T.F_is_code_row.kp T.b_is_code_row .nil pass0 (pa_cons (pv 4) pa_nil))) (pw_or1 (pt_val (pe_call G_is_data_row (hr.mono (by omega)) (by rfl) T.m_is_data_row T.F_is_data_row.kp T.b_is_data_row .nil pass0 (pa_cons (pv 4) pa_nil)))))) (pss_one (ps_ret (pv 4))) pss_nil)
      (pss_one (ps_ret pe_non)))))))), ?_⟩
    obtain ⟨t, ty, kSt, _, _⟩ := ok.ty
    refine ⟨v, rfl, v, .ty "str", t, _, _, rfl, .ty _, ty, kSt, _, rfl, ?_⟩
    cases hv : isS v with
    | false =>
      refine iteT (k1 ?_ H (Same.refl _))
      cases v with
      | str z => cases hv
      | _ => rfl
    | true =>
      obtain ⟨z, rfl⟩ := isS_of hv
      have hz := ok.strK
      obtain ⟨u, ts, hp, hj⟩ := parts_spec z
      obtain ⟨pk, pl⟩ := split_parts hp hz
      have rd : rdV (.str z) = readR (u :: ts) := by show readR (Txt.split z " ") = _; rw [hp]
      rw [rd] at k1 k2
      refine iteF ⟨.str z, rfl, ⟨z, rfl⟩, z, _, rfl, rfl, (by decide +kernel), Nat.le_trans (Nat.add_le_add_right hz.1 2) (by decide), fun p1 h1 => ?_⟩
      rw [hp]
      refine ⟨p1, .str u, ts.map V.str, rfl, SqL.of upd_same, fun p2 h2 => ⟨_, _, rfl, _, _, rfl, rfl, ?_⟩⟩
      have s12 := (Same.new (H := H) (o := .lst ((u :: ts).map V.str)) h1).trans (Same.new (o := .lst (ts.map V.str)) h2)
      have e2 : (upd (upd H p1 (.lst ((u :: ts).map V.str))) p2 (.lst (ts.map V.str))) p2 = some (.lst (ts.map V.str)) := upd_same
      generalize upd (upd H p1 (.lst ((u :: ts).map V.str))) p2 (.lst (ts.map V.str)) = H2 at s12 e2 ⊢
      refine ⟨.str u, rfl, u, rfl, fun hn => ?_, fun ks t hk ht => ?_⟩
      · have e : readR (u :: ts) = none := by
          unfold readR
          dsimp only
          rw [hn]
        exact ⟨.non, rfl, _, rfl, iteY rfl (iteT (k1 e _ s12))⟩
      · have lt : (ts.map V.str).length = ts.length := List.length_map ..
        refine ⟨.ref t, rfl, _, rfl, iteN (fun e => nomatch e) ⟨.ref p2, rfl, .ref p2, ts.length, rfl, .inl ⟨_, SqL.of e2, lt.symm⟩, .ref t, rfl, .ref t, ks.length, rfl, .inr ⟨_, ht H2, rfl⟩, rfl, _, rfl, ?_⟩⟩
        rw [readR_some hk] at k1 k2
        by_cases hl : ts.length = ks.length
        · rw [if_pos hl] at k1 k2
          have e0 : (!decide (V.int (ts.length : Int) = V.int (ks.length : Int))) = false := by simp [hl]
          rw [e0]
          obtain ⟨kk1, kk2, kk3⟩ := kinds_spec hk
          have lk := kinds_len hk
          have lz : (List.zipWith riV (kS ks) ts).length = ks.length := by rw [List.length_zipWith]; omega
          refine iteF ⟨.str u, rfl, .ref p2, rfl, .ref t, rfl, p2, t, ts.map V.str, ks, rfl, SqL.of e2, ht H2, fun D hD => ?_⟩
          refine lc_it (walk_zipM (K := K) (xs := ts.map V.str) (ys := ks) (n := ks.length) (by omega)) (fun i H' => Same H2 H' ∧ H' D = some (.lst ((List.zipWith riV (kS ks) ts).take i))) ⟨Same.new hD, upd_same⟩ (fun i H' _ q => ⟨q.1.seq (SqL.of e2), ht H'⟩) ?_ ?_
          · rintro i v H3 H4 hi ⟨s3, e3⟩ ⟨T', x, q, rfl, hT, rfl, hx, hq⟩
            obtain ⟨zi, hzi, rfl⟩ : ∃ zi, ts[i]? = some zi ∧ x = .str zi := by
              have hx : (ts.map V.str)[i]? = some x := hx
              rw [List.getElem?_map] at hx
              cases e : ts[i]? with
              | none => rw [e] at hx; cases hx
              | some q => rw [e] at hx; exact ⟨q, rfl, (Option.some.inj hx).symm⟩
            obtain ⟨qi, hqi, rfl⟩ : ∃ qi, (kS ks)[i]? = some qi ∧ q = .str qi := by
              have hq : ks[i]? = some q := hq
              rw [kk1] at hq
              unfold kst at hq
              rw [List.getElem?_map] at hq
              cases e : (kS ks)[i]? with
              | none => rw [e] at hq; cases hq
              | some q => rw [e] at hq; exact ⟨q, rfl, (Option.some.inj hq).symm⟩
            have nDT : D ≠ T' := ne_of_none e3 hT
            refine ⟨T', [.str zi, .str qi], rfl, SqT.of upd_same, rfl, .str zi, [.str qi], rfl, .str qi, [], rfl, rfl, rfl, .str zi, rfl, .str qi, rfl, zi, qi, rfl, pk zi (List.mem_cons_of_mem _ (List.mem_of_getElem? hzi)), kk2 qi (List.mem_of_getElem? hqi), ?_⟩
            refine ⟨_, (by rw [upd_ne nDT]; exact e3), ?_, Same.put (s3.trans (Same.new hT)) hD, ?_⟩
            · rw [List.length_take]
              exact Nat.lt_of_le_of_lt (Nat.min_le_left _ _) (Nat.lt_of_lt_of_le hi (Nat.le_trans (show ks.length ≤ 10 by omega) (by decide)))
            · have hz : (List.zipWith riV (kS ks) ts)[i]? = some (riV qi zi) := by
                rw [List.getElem?_zipWith, hqi, hzi]
              rw [upd_same, List.take_add_one, hz]
              rfl
          · rintro H3 ⟨s3, e3⟩
            rw [List.take_of_length_le (by omega)] at e3
            refine ⟨D, _, rfl, .inr (SqL.of e3), ?_⟩
            show (V.str u :: (List.zipWith riV (kS ks) ts ++ [])).length ≤ sizeLine ∧ ∀ p, H3 p = none → _
            rw [List.append_nil]
            refine ⟨?_, fun pr hpr => ?_⟩
            · show (List.zipWith riV (kS ks) ts).length + 1 ≤ sizeLine
              rw [lz]
              exact Nat.le_trans (show ks.length + 1 ≤ 100 by omega) (by decide)
            have s4 := Same.new (o := .tup (V.str u :: List.zipWith riV (kS ks) ts)) hpr
            have e4 : (upd H3 pr (.tup (V.str u :: List.zipWith riV (kS ks) ts))) pr = some (.tup (V.str u :: List.zipWith riV (kS ks) ts)) := upd_same
            generalize upd H3 pr (.tup (V.str u :: List.zipWith riV (kS ks) ts)) = H4 at s4 e4 ⊢
            have zp : H pr = none := (s12.trans s3).free hpr
            have tp : ∀ H' : Hp, H' pr = some (.tup (V.str u :: List.zipWith riV (kS ks) ts)) → Tp K H' 0 0 (.ref pr) (some (V.str u :: List.zipWith riV (kS ks) ts)) := fun H' e => ⟨pr, rfl, SqT.of e, by rw [List.length_cons, lz]; exact Nat.le_trans (show ks.length + 1 ≤ 100 by omega) (by decide), memc (.str (pk u (List.mem_cons_self ..))) fun x m => by
              obtain ⟨i, hi, rfl⟩ := List.getElem_of_mem m
              rw [List.getElem_zipWith]
              exact riV_okv (pk _ (List.mem_cons_of_mem _ (List.getElem_mem _)))⟩
            have s14 := (s12.trans s3).trans s4
            have eO : rowOk (V.str u :: List.zipWith riV (kS ks) ts) = fitA (List.zipWith riV (kS ks) ts) (kS ks) := rowOk_some hk
            refine ⟨.ref pr, rfl, .ref pr, 0, 0, _, rfl, tp _ e4, fun H5 s5 => ⟨_, rfl, ?_⟩⟩
            unfold rowOk at eO
            cases hc : codeO (some (V.str u :: List.zipWith riV (kS ks) ts)) with
            | true =>
              rw [hc, Bool.true_or] at eO
              rw [← eO] at k2
              exact iteT (iteT ⟨.ref pr, rfl, k2 _ rfl _ pr (s14.trans s5) zp (s5 _ _ e4)⟩)
            | false =>
              refine iteF ⟨.ref pr, rfl, .ref pr, 0, 0, _, rfl, tp _ (s5 _ _ e4), fun H6 s6 => ⟨_, rfl, ?_⟩⟩
              rw [hc, Bool.false_or] at eO
              rw [eO]
              have s16 := (s14.trans s5).trans s6
              cases hd : fitA (List.zipWith riV (kS ks) ts) (kS ks) with
              | true =>
                rw [hd] at k2
                exact iteT ⟨.ref pr, rfl, k2 _ rfl _ pr s16 zp (s6 _ _ (s5 _ _ e4))⟩
              | false =>
                rw [hd] at k1
                exact iteF (k1 rfl _ s16)
        · rw [if_neg hl] at k1
          have e0 : (!decide (V.int (ts.length : Int) = V.int (ks.length : Int))) = true := by
            simp
            omega
          rw [e0]
          exact iteT (k1 rfl _ s12)
end

open PySem.NumText (AllDigits digitsVal toDigits_digitsVal)
section
variable {P : Program} {w : World} {K : PySem.W.Frag} {mg : Str → Option Value} {base : Heap} {Z : Fs}
theorem ok_law_row_text (T : Txt K w mg Z) : FnOk P w K mg base CX0 1 Z.a_law_row_text Z.d_law_row_text ["_law_one"] (sp_rtext K) := by
  refine T.F_law_row_text.ok sc_law_row_text (fun vs H Q E h => ?_) (fun cdv A outer s H vs Q E hr h => ?_)
  · obtain ⟨a, xs, rfl, _⟩ := h
    rfl
  · obtain ⟨a, xs, rfl, hx, hk, hl, k⟩ := h
    refine ⟨_, (pss_one (ps_ret (pe_join pe_str (pe_lc (own := [("_law_item", 1)]) (g := gName 1) (tt := tYes) rfl sc_law_row_text.nd (pi_tup (pv 0)) (blkOk_by (N := N_law_row_text) (sc := defScope s_law_row_text) (by decide +kernel)) (fun _ _ _ _ _ => pg_name (i := 1) sc_law_row_text.nd rfl (Or.inl rfl)) (fun _ _ _ _ _ => pts_nil) (fun _ _ _ _ _ => (pe_callTy call_strA (by rfl) T.n_str boot_str (pa_cons (pv 1) pa_nil))))))), ?_⟩
    refine ⟨⟨_, rfl⟩, .ref a, rfl, a, rfl, ⟨xs, hx⟩, fun D hD => ?_⟩
    refine lc_it (walk_tup (K := K) (xs := xs)) (fun i H' => Same H H' ∧ H' D = some (.lst (((xs.take i).map strOf).map V.str))) ⟨Same.new hD, upd_same⟩ (fun i H' _ q => Same.sqT q.1 hx) ?_ ?_
    · rintro i v H2 H3 hi ⟨s2, e2⟩ ⟨rfl, hv⟩
      have hv' : xs[i]? = some v := hv
      have lb : (((xs.take i).map strOf).map V.str).length < sizeLine := by
        rw [List.length_map, List.length_map]
        exact Nat.lt_of_le_of_lt (List.length_take_le _ _) (Nat.lt_of_lt_of_le hi (Nat.le_trans hl (by decide)))
      have fin : Same H (upd H3 D (.lst (((xs.take i).map strOf).map V.str ++ [V.str (strOf v)]))) ∧ (upd H3 D (.lst (((xs.take i).map strOf).map V.str ++ [V.str (strOf v)]))) D = some (.lst (((xs.take (i + 1)).map strOf).map V.str)) := by
        refine ⟨Same.put s2 hD, ?_⟩
        rw [upd_same, take_snoc strOf hv', List.map_append]
        rfl
      rcases hk v (List.mem_of_getElem? hv') with ⟨z, rfl, hz⟩ | ⟨n, rfl, hn⟩
      · exact ⟨rfl, .str z, rfl, .inl ⟨z, rfl, _, e2, lb, fin⟩⟩
      · exact ⟨rfl, .int n, rfl, .inr ⟨n, rfl, log2N hn, _, e2, lb, fin⟩⟩
    · rintro H' ⟨s2, e2⟩
      rw [List.take_length] at e2
      refine ⟨_, D, xs.map strOf, rfl, rfl, .inl (SqL.of e2), ?_, k _ s2⟩
      have l1 : (" " : Str).length = 1 := by decide +kernel
      rw [l1, List.length_map]
      have := sum_le ((xs.map strOf).map (·.length)) 100000 (by
        intro y m
        obtain ⟨z, mz, rfl⟩ := List.mem_map.mp m
        obtain ⟨x, mx, rfl⟩ := List.mem_map.mp mz
        exact strOf_len (hk x mx))
      rw [List.length_map, List.length_map] at this
      have : xs.length * 100000 ≤ 20 * 100000 := Nat.mul_le_mul_right _ hl
      omega
/-! ### figures, by the law -/
theorem in_dig (c : Nat) : decide (c ∈ ("0123456789" : Str).cps.toList) = dg c := by
  have e : ("0123456789" : Str).cps.toList = List.range' 48 10 := by decide +kernel
  rw [e, Bool.eq_iff_iff]
  simp [dg, List.mem_range'_1]
  omega
theorem figV_no {z : Str} (h : isCan z = false) : figV z = .str z := by
  unfold figV canon
  rw [h]; rfl
theorem noCan_size {z : Str} (h : ¬ (1 ≤ z.cps.size ∧ z.cps.size ≤ 6)) : isCan z = false := by
  unfold isCan
  by_cases h1 : 1 ≤ z.cps.size
  · rw [decide_eq_false (show ¬ z.cps.size ≤ 6 by omega)]; simp
  · rw [decide_eq_false h1]; simp
theorem noCan_dg {z : Str} (h : z.cps.toList.all dg = false) : isCan z = false := by
  unfold isCan
  rw [h]; rfl
theorem noCan_zero {z : Str} (h1 : z.cps.size ≠ 1) (h0 : z.cps.toList.head? = some 48) : isCan z = false := by
  unfold isCan
  rw [decide_eq_false h1, decide_eq_true h0]; simp
def sp_fig (K : PySem.W.Frag) : Sp := fun vs H Q _ => ∃ (z : Str), vs = [.str z] ∧ StrK z ∧ ∀ H' : Hp, Same H H' → Q (figV z) H'
theorem ok_law_figure (T : Txt K w mg Z) : FnOk P w K mg base CX0 1 Z.a_law_figure Z.d_law_figure ["_law_word_y"] (sp_fig K) := by
  refine T.F_law_figure.ok sc_law_figure (fun vs H Q E h => ?_) (fun cdv A outer s H vs Q E hr h => ?_)
  · obtain ⟨z, rfl, _⟩ := h
    rfl
  · obtain ⟨z, rfl, hz, k⟩ := h
    refine ⟨_, (pss_cons (ps_if (PW.pt (pw_or (pt_cmpR op_eq (pv 0) pe_str (nomark _)) (pw_or (pt_cmpR op_gt (pe_callB call_len (by rfl) T.n_len boot_len (pa_cons (pv 0) pa_nil)) pe_int (nomark _)) (pw_or1 (pt_cmpR (op_neD hr.units) (pe_lc (own := [("_law_sign", 1)]) (g := gName 1) rfl sc_law_figure.nd (pi_str (pv 0)) (blkOk_by (N := N_law_figure) (sc := defScope s_law_figure) (by decide +kernel)) (fun _ _ _ _ _ => pg_name (i := 1) sc_law_figure.nd rfl (Or.inl rfl)) (fun _ _ _ _ _ => pts_one (pt_cmpR op_notIn_sign (pv 1) pe_str rfl)) (fun _ _ _ _ _ => (pv 1))) (pe_lst pa_nil) (nomark _)))))) (pss_one (ps_ret (pv 0))) pss_nil)
      (pss_one (ps_ret (pe_ifExp (PW.pt (pw_and (pt_cmpR op_gt (pe_callB call_len (by rfl) T.n_len boot_len (pa_cons (pv 0) pa_nil)) pe_int (nomark _)) (pw_and1 (pt_cmpR op_eq (pe_ix ix_str (pv 0) pe_int (fun _ _ => rfl)) pe_str (nomark _))))) (pv 0) (pe_callTy call_int_str (by rfl) T.n_int boot_int (pa_cons (pv 0) pa_nil)))))), ?_⟩
    refine ⟨.str z, rfl, rfl, _, rfl, ?_⟩
    by_cases he : z = ""
    · have n : isCan z = false := by rw [he]; decide +kernel
      rw [figV_no n] at k
      exact iteY (congrArg V.str he) (iteT ⟨.str z, rfl, k _ (Same.refl _)⟩)
    have h1 : 1 ≤ z.cps.size := by
      rcases Nat.eq_zero_or_pos z.cps.size with h | h
      · exfalso
        apply he
        apply Str.ext'
        have e0 : ("" : Str).cps = #[] := by decide +kernel
        rw [e0]
        exact Array.eq_empty_of_size_eq_zero h
      · exact h
    refine iteN (fun e => he (V.str.inj e)) ⟨.str z, rfl, .str z, z.cps.size, rfl, ⟨Nat.le_trans hz.1 (by decide), rfl⟩, _, _, rfl, rfl, _, rfl, ?_⟩
    by_cases h6 : 6 < z.cps.size
    · rw [decide_eq_true (show (6 : Int) < (z.cps.size : Int) by omega)]
      rw [figV_no (noCan_size (by omega))] at k
      exact iteT (iteT ⟨.str z, rfl, k _ (Same.refl _)⟩)
    rw [decide_eq_false (show ¬ (6 : Int) < (z.cps.size : Int) by omega)]
    refine iteF ⟨.str z, rfl, z, rfl, fun D hD => ?_⟩
    refine lc_it (walk_str (z := z)) (fun i H' => Same H H' ∧ H' D = some (.lst (((z.cps.toList.take i).filter fun c => !dg c).map fun c => V.str ⟨#[c]⟩))) ⟨Same.new hD, upd_same⟩ (fun _ _ _ _ => True.intro) ?_ ?_
    · rintro i v H2 H3 hi ⟨s2, e2⟩ ⟨rfl, c, hc, rfl⟩
      have hc' : z.cps.toList[i]? = some c := by simpa using hc
      refine ⟨rfl, .str ⟨#[c]⟩, rfl, c, _, rfl, rfl, _, rfl, ?_⟩
      rw [in_dig]
      cases hq : dg c with
      | false =>
        refine iteT ⟨_, rfl, _, e2, ?_, Same.put s2 hD, ?_⟩
        · rw [List.length_map]
          exact Nat.lt_of_le_of_lt (List.length_filter_le _ _) (Nat.lt_of_le_of_lt (List.length_take_le _ _) (Nat.lt_of_lt_of_le hi (Nat.le_trans hz.1 (by decide))))
        · rw [upd_same, List.take_add_one, hc', List.filter_append, List.map_append]
          simp [hq]
      | true =>
        refine iteF ⟨s2, ?_⟩
        rw [e2, List.take_add_one, hc', List.filter_append, List.map_append]
        simp [hq]
    · rintro H' ⟨s2, e2⟩
      refine ⟨Nat.zero_le _, fun p hp => ?_⟩
      have nDp : D ≠ p := ne_of_none e2 hp
      refine ⟨.list _, .list [], .lst (SqL.of (by rw [upd_ne nDp]; exact e2)) (dp_strs _), .lst (SqL.of upd_same) .nil, shaped_strs (fun c m => hz.2 c (List.mem_of_mem_take (List.mem_filter.mp m).1)), rfl, ?_⟩
      have e : PyData.eqv (.list (((z.cps.toList.take z.cps.size).filter fun c => !dg c).map fun c => PyData.str ⟨#[c]⟩)) (.list []) = z.cps.toList.all dg := by
        rw [List.take_of_length_le (by simp)]
        cases hf : (z.cps.toList.filter fun c => !dg c) with
        | nil =>
          rw [List.filter_eq_nil_iff] at hf
          have ha : z.cps.toList.all dg = true := by
            rw [List.all_eq_true]
            intro c hc
            have q := hf c hc
            simpa using q
          rw [ha]
          exact eqv_nil
        | cons c r =>
          have hm : c ∈ z.cps.toList.filter fun c => !dg c := by
            rw [hf]
            exact List.mem_cons_self ..
          rw [List.mem_filter] at hm
          have ha : z.cps.toList.all dg = false := by
            rw [List.all_eq_false]
            exact ⟨c, hm.1, by simpa using hm.2⟩
          rw [ha]
          exact eqv_cons _ _
      rw [e]
      have s3 := s2.trans (Same.new hp (o := .lst []))
      refine ⟨_, rfl, ?_⟩
      cases hd : z.cps.toList.all dg with
      | false =>
        rw [figV_no (noCan_dg hd)] at k
        exact iteT ⟨.str z, rfl, k _ s3⟩
      | true =>
        refine iteF ⟨.str z, rfl, .str z, z.cps.size, rfl, ⟨Nat.le_trans hz.1 (by decide), rfl⟩, _, _, rfl, rfl, _, rfl, ?_⟩
        have hx : (z.cps.toList.all dg && decide (1 ≤ z.cps.size)) = true := by rw [hd, decide_eq_true h1]; rfl
        have num : (z.cps.toList.head? = some 48 → z = "0") → ∃ a n, [V.str z] = [V.str a] ∧ PySem.intText? a = some n ∧ a.length ≤ 640 ∧ Q (V.int n) (upd H' p (.lst [])) := fun h0 => by
          have hc : isCan z = true := can_of hx (by omega) h0
          have cn : canon z = some (digitsVal z.cps.toList) := if_pos hc
          refine ⟨z, _, rfl, (canon_spec cn).2.2.1, Nat.le_trans (show z.cps.size ≤ 6 by omega) (by decide), ?_⟩
          have q := k _ s3
          unfold figV at q
          rw [cn] at q
          exact q
        by_cases h2 : 1 < z.cps.size
        · rw [decide_eq_true (show (1 : Int) < (z.cps.size : Int) by omega)]
          obtain ⟨c, r, ec⟩ : ∃ c r, z.cps.toList = c :: r := by
            cases e : z.cps.toList with
            | nil =>
              have : z.cps.size = 0 := by rw [← Array.length_toList, e]; rfl
              omega
            | cons c r => exact ⟨c, r, rfl⟩
          refine iteT ⟨.str z, rfl, z, 0, c, rfl, rfl, Nat.le_trans hz.1 (by decide), (by rw [ec]; exact atI_nat (j := 0) rfl), rfl, _, rfl, ?_⟩
          by_cases h0 : c = 48
          · have hh : z.cps.toList.head? = some 48 := by rw [ec, h0]; rfl
            rw [figV_no (noCan_zero (by omega) hh)] at k
            exact iteY (by rw [h0]; rfl) ⟨.str z, rfl, k _ s3⟩
          · refine iteN (fun e => h0 ?_) ⟨.str z, rfl, num fun hh => ?_⟩
            · have e1 := congrArg (fun q : Str => q.cps.toList) (V.str.inj e)
              have e2 : ("0" : Str).cps.toList = [48] := by decide +kernel
              rw [e2] at e1
              exact (List.cons.inj e1).1
            · rw [ec] at hh
              exact absurd (Option.some.inj hh) h0
        · rw [decide_eq_false (show ¬ (1 : Int) < (z.cps.size : Int) by omega)]
          exact iteF (iteF ⟨.str z, rfl, num fun hh => zero_of hh (by omega)⟩)
/-! ### a row of words, by the law -/
theorem dint3 {a b : Int} : decide (V.int a = V.int b) = decide (a = b) := by
  by_cases c : a = b
  · rw [c, decide_eq_true rfl, decide_eq_true rfl]
  · rw [decide_eq_false c, decide_eq_false fun z => c (V.int.inj z)]
def sp_rowof (K : PySem.W.Frag) : Sp := fun vs H Q _ => ∃ (a : Addr) (ws : List Str), vs = [.ref a, .str ""] ∧ SqL K H a (ws.map V.str) ∧ (∀ z ∈ ws, StrK z) ∧ 0 < ws.length ∧ ws.length ≤ 5000 ∧ (lawR ws = none → ∀ H' : Hp, Same H H' → Q .non H') ∧ ∀ xs, lawR ws = some xs → ∀ (H' : Hp) (p : Addr), Same H H' → H p = none → H' p = some (.tup xs) → Q (.ref p) H'
theorem figV_okv {H : Hp} {b : Addr} {n : Nat} {z : Str} (hz : StrK z) : Okv K H b n (figV z) := by
  unfold figV
  cases canon z with
  | none => exact .str hz
  | some n => exact .int
theorem ok_law_row_of (T : Txt K w mg Z) : FnOk P w K mg base CX0 3 Z.a_law_row_of Z.d_law_row_of ["_law_words", "_law_side"] (sp_rowof K) := by
  have G_law_figure : FnOk P w K mg base CX0 1 Z.a_law_figure Z.d_law_figure ["_law_word_y"] (sp_fig K) := ok_law_figure T
  have G_law_code_so : FnOk P w K mg base CX0 2 Z.a_law_code_so Z.d_law_code_so ["_law_thing"] (sp_is_code_row K) := ok_law_code_so T
  have G_law_data_so : FnOk P w K mg base CX0 2 Z.a_law_data_so Z.d_law_data_so ["_law_thing"] (sp_is_data_row K) := ok_law_data_so T
  refine T.F_law_row_of.ok sc_law_row_of (fun vs H Q E h => ?_) (fun cdv A outer s H vs Q E hr h => ?_)
  · obtain ⟨a, ws, rfl, _⟩ := h
    rfl
  · obtain ⟨a, ws, rfl, hS, hz, h0, hl, k1, k2⟩ := h
    obtain ⟨u, ts, rfl⟩ : ∃ u ts, ws = u :: ts := by
      cases ws with
      | nil => cases h0
      | cons u ts => exact ⟨u, ts, rfl⟩
    refine ⟨_, (pss_cons (ps_setLc (i := 2) (own := [("_law_k", 3)]) (g := gName 3) (tt := tYes) rfl sc_law_row_of.nd rfl rfl (sw_true rfl rfl rfl (by decide +kernel)) (pi_range1 (by rfl) T.n_range (pa_cons (pe_callB call_len (by rfl) T.n_len boot_len (pa_cons (pv 0) pa_nil)) pa_nil)) (blkOk_by (N := N_law_row_of) (sc := defScope s_law_row_of) (by decide +kernel)) (fun _ _ _ _ _ => pg_name (i := 3) sc_law_row_of.nd rfl (Or.inl rfl)) (fun _ _ _ _ _ => pts_nil) (fun _ _ _ _ _ => (pe_ifExp (pt_cmpR op_eq (pv 3) pe_int (nomark _)) (pe_ix (ix_list : IxR _ (rIxL K)) (pv 0) (pv 3) (fun _ _ => rfl)) (pe_call G_law_figure (hr.mono (by omega)) (by rfl) T.m_law_figure T.F_law_figure.kp T.b_law_figure .nil pass0 (pa_cons (pe_ix (ix_list : IxR _ (rIxL K)) (pv 0) (pv 3) (fun _ _ => rfl)) pa_nil)))))
      (pss_cons (ps_set (i := 4) sc_law_row_of.nd rfl (Or.inl rfl) (pe_callTy call_tuple_of (by rfl) T.n_tuple boot_tuple (pa_cons (pv 2) pa_nil)))
      (pss_cons (ps_if (PW.pt (pw_or (PW.pt (pw_and (pt_cmpR op_ne (pv 1) pe_str (nomark _)) (pw_and1 (pt_val (pe_call G_law_code_so (hr.mono (by omega)) (by rfl) T.m_law_code_so T.F_law_code_so.kp T.b_law_code_so .nil pass0 (pa_cons (pv 4) pa_nil)))))) (pw_or1 (PW.pt (pw_and (pt_cmpR op_ne (pv 1) pe_str (nomark _)) (pw_and1 (pt_val (pe_call G_law_data_so (hr.mono (by omega)) (by rfl) T.m_law_data_so T.F_law_data_so.kp T.b_law_data_so .nil pass0 (pa_cons (pv 4) pa_nil))))))))) (pss_one (ps_ret (pv 4))) pss_nil)
      (pss_one (ps_ret pe_non))))), ?_⟩
    have lw : ((u :: ts).map V.str).length = ts.length + 1 := by rw [List.length_map]; rfl
    refine ⟨.ref a, rfl, .ref a, ts.length + 1, rfl, .inl ⟨_, hS, lw.symm⟩, _, rfl, ?_, ?_, fun D hD => ?_⟩
    · omega
    · rw [List.length_cons] at hl
      omega
    have lz : (V.str u :: ts.map figV).length = ts.length + 1 := by rw [List.length_cons, List.length_map]
    rw [List.length_cons] at hl
    refine lc_it walk_range (fun i H' => Same H H' ∧ H' D = some (.lst ((V.str u :: ts.map figV).take i))) ⟨Same.new hD, upd_same⟩ (fun _ _ _ _ => True.intro) ?_ ?_
    · rintro i x H2 H3 hi ⟨s2, e2⟩ ⟨rfl, rfl⟩
      have hi' : i < ts.length + 1 := by
        have : (((ts.length + 1 : Nat) : Int)).toNat = ts.length + 1 := Int.toNat_natCast _
        omega
      have z0 : (0 : Int) + (i : Int) = (i : Int) := Int.zero_add _
      refine ⟨rfl, .int (0 + (i : Int)), rfl, rfl, _, rfl, ?_⟩
      rw [z0, dint3]
      have lb : ((V.str u :: ts.map figV).take i).length < sizeLine := Nat.lt_of_le_of_lt (List.length_take_le _ _) (Nat.lt_of_lt_of_le hi' (Nat.le_trans hl (by decide)))
      by_cases c : (i : Int) = 0
      · rw [decide_eq_true c]
        have c' : i = 0 := by omega
        subst c'
        refine iteT ⟨.ref a, rfl, .int (0 + ((0 : Nat) : Int)), rfl, a, _, _, .str u, rfl, rfl, s2.seq hS, atI_nat (j := 0) rfl, _, e2, lb, Same.put s2 hD, ?_⟩
        rw [upd_same]
        rfl
      · rw [decide_eq_false c]
        obtain ⟨j, rfl⟩ : ∃ j, i = j + 1 := ⟨i - 1, by omega⟩
        have hj : j < ts.length := by omega
        have gj : ((u :: ts).map V.str)[j + 1]? = some (.str ts[j]) := by
          rw [List.getElem?_map, List.getElem?_cons_succ, List.getElem?_eq_getElem hj]; rfl
        refine iteF ⟨.ref a, rfl, .int (0 + ((j + 1 : Nat) : Int)), rfl, a, _, _, .str ts[j], rfl, rfl, s2.seq hS, ?_, ts[j], rfl, hz _ (List.mem_cons_of_mem _ (List.getElem_mem hj)), fun H4 s4 => ⟨_, s4 _ _ e2, lb, Same.put (s2.trans s4) hD, ?_⟩⟩
        · rw [Int.zero_add]
          exact atI_nat gj
        · have gz : (V.str u :: ts.map figV)[j + 1]? = some (figV ts[j]) := by
            rw [List.getElem?_cons_succ, List.getElem?_map, List.getElem?_eq_getElem hj]; rfl
          have tk : (V.str u :: ts.map figV).take (j + 1 + 1) = (V.str u :: ts.map figV).take (j + 1) ++ [figV ts[j]] := by
            rw [List.take_add_one (i := j + 1), gz]; rfl
          rw [upd_same, tk]
    · rintro H2 ⟨s2, e2⟩
      have lt : (((ts.length + 1 : Nat) : Int)).toNat = ts.length + 1 := Int.toNat_natCast _
      rw [lt, ← lz, List.take_length] at e2
      refine ⟨.ref D, rfl, D, _, rfl, .inl ⟨SqL.of e2, fun pr hpr => ?_⟩⟩
      have s3 := Same.new (o := .tup (V.str u :: ts.map figV)) hpr
      have e3 : (upd H2 pr (.tup (V.str u :: ts.map figV))) pr = some (.tup (V.str u :: ts.map figV)) := upd_same
      generalize upd H2 pr (.tup (V.str u :: ts.map figV)) = H3 at s3 e3 ⊢
      have zp : H pr = none := s2.free hpr
      have s13 := s2.trans s3
      have tp : ∀ H' : Hp, H' pr = some (.tup (V.str u :: ts.map figV)) → Tp K H' 0 0 (.ref pr) (some (V.str u :: ts.map figV)) := fun H' e => ⟨pr, rfl, SqT.of e, by rw [lz]; exact Nat.le_trans hl (by decide), memc (.str (hz u (List.mem_cons_self ..))) fun x m => by
        obtain ⟨z, mz, rfl⟩ := List.mem_map.mp m
        exact figV_okv (hz z (List.mem_cons_of_mem _ mz))⟩
      have n1 : (!decide (V.str "" = V.str "data")) = true := by decide +kernel
      have n2 : (!decide (V.str "" = V.str "code")) = true := by decide +kernel
      unfold lawR rowOk at k1 k2
      dsimp only at k1 k2
      refine ⟨.str "", rfl, rfl, _, rfl, ?_⟩
      show if (!decide (V.str "" = V.str "data")) = true then _ else _
      rw [n1]
      refine iteT ⟨.ref pr, rfl, .ref pr, 0, 0, _, rfl, tp _ e3, fun H4 s4 => ⟨_, rfl, ?_⟩⟩
      cases hc : codeO (some (V.str u :: ts.map figV)) with
      | true =>
        rw [hc, Bool.true_or] at k2
        exact iteT (iteT ⟨.ref pr, rfl, k2 _ rfl _ pr (s13.trans s4) zp (s4 _ _ e3)⟩)
      | false =>
        rw [hc, Bool.false_or] at k1 k2
        refine iteF ⟨.str "", rfl, rfl, _, rfl, ?_⟩
        show if (!decide (V.str "" = V.str "code")) = true then _ else _
        rw [n2]
        refine iteT ⟨.ref pr, rfl, .ref pr, 0, 0, _, rfl, tp _ (s4 _ _ e3), fun H5 s5 => ⟨_, rfl, ?_⟩⟩
        have s15 := (s13.trans s4).trans s5
        cases hd : dataO (some (V.str u :: ts.map figV)) with
        | true =>
          rw [hd] at k2
          exact iteT ⟨.ref pr, rfl, k2 _ rfl _ pr s15 zp (s5 _ _ (s4 _ _ e3))⟩
        | false =>
          rw [hd] at k1
          exact iteF (k1 rfl _ s15)
/-! ### bent texts -/
theorem perm_at {α : Type} : ∀ {l : List α} {i : Nat} (h : i < l.length), (l[i] :: l.eraseIdx i).Perm l
  | _ :: _, 0, _ => List.Perm.refl _
  | x :: l, i + 1, h => by
    have q := perm_at (l := l) (i := i) (by simpa using h)
    rw [List.eraseIdx_cons_succ, List.getElem_cons_succ]
    exact (List.Perm.swap x _ _).trans (q.cons x)
theorem map_erase {α β : Type} (f : α → β) : ∀ (l : List α) (i : Nat), (l.map f).eraseIdx i = (l.eraseIdx i).map f
  | [], _ => rfl
  | _ :: _, 0 => rfl
  | a :: l, i + 1 => congrArg (f a :: ·) (map_erase f l i)
def sp_mixed (K : PySem.W.Frag) : Sp := fun vs H Q _ => ∃ (b l a : Addr) (ws : List Str), vs = [.ref b, .ref a] ∧ Bag H b l ∧ H a = some (.lst (ws.map V.str)) ∧ a ≠ b ∧ ws.length ≤ 5000 ∧ ∀ (H' : Hp) (p : Addr) (zs : List Str), Stp b H H' → Bag H' b l → H' p = some (.lst (zs.map V.str)) → zs.Perm ws → Q (.ref p) H'
theorem ok_law_mixed (T : Txt K w mg Z) : FnOk P w K mg base CX0 2 Z.a_law_mixed Z.d_law_mixed ["_law_bag_here", "_law_things"] (sp_mixed K) := by
  have G_law_draw : FnOk P w K mg base CX0 1 Z.a_law_draw Z.d_law_draw ["_law_bag_here", "_law_sides"] sp_law_draw := ok_law_draw T
  refine T.F_law_mixed.ok sc_law_mixed (fun vs H Q E h => ?_) (fun cdv A outer s H vs Q E hr h => ?_)
  · obtain ⟨b, l, a, ws, rfl, _⟩ := h
    rfl
  · obtain ⟨b, l, a, ws, rfl, B, ea, na, hl, k⟩ := h
    refine ⟨_, (pss_cons (ps_par (i := 2) (j := 3) (by rfl) sc_law_mixed.nd rfl rfl (by decide) rfl rfl (pa_cons (pe_callTy call_list_of (by rfl) T.n_list boot_list (pa_cons (pv 1) pa_nil)) (pa_cons (pe_lst pa_nil) pa_nil)) (by rfl))
      (pss_cons (ps_for PassesOwn.never rfl (pi_range1 (by rfl) T.n_range (pa_cons (pe_callB call_len (by rfl) T.n_len boot_len (pa_cons (pv 1) pa_nil)) pa_nil)) (pg_name (i := 4) sc_law_mixed.nd rfl (Or.inl rfl)) (pss_one (ps_expr (pe_bm PySem.F.plainAttrs_list PySem.F.slot_list_append PySem.F.type_list_append mt_append (pv 3) (pa_cons (pe_bm PySem.F.plainAttrs_list PySem.F.slot_list_pop PySem.F.type_list_pop mt_popAt (pv 2) (pa_cons (pe_call G_law_draw (hr.mono (by omega)) (by rfl) T.m_law_draw T.F_law_draw.kp T.b_law_draw .nil pass0 (pa_cons (pv 0) (pa_cons (pe_callB call_len (by rfl) T.n_len boot_len (pa_cons (pv 2) pa_nil)) pa_nil))) pa_nil)) pa_nil)))))
      (pss_one (ps_ret (pv 3))))), ?_⟩
    refine ⟨.ref a, rfl, a, _, rfl, .inl (SqL.of ea), fun p1 h1 => ⟨Nat.zero_le _, fun p2 h2 => ⟨_, _, rfl, ?_⟩⟩⟩
    have n1 := B.ne h1
    have l1 := B.nel h1
    have s1 : Same H (upd H p1 (.lst (ws.map V.str))) := Same.new h1
    have e1 : (upd H p1 (.lst (ws.map V.str))) p1 = some (.lst (ws.map V.str)) := upd_same
    generalize upd H p1 (.lst (ws.map V.str)) = H1 at s1 e1 h2 ⊢
    have B1 := B.same s1
    have n2 := B1.ne h2
    have l2 := B1.nel h2
    have n12 : p1 ≠ p2 := ne_of_none e1 h2
    have z2 : H p2 = none := s1.free h2
    have s2 : Same H1 (upd H1 p2 (.lst [])) := Same.new h2
    have e2 : (upd H1 p2 (.lst [])) p2 = some (.lst []) := upd_same
    generalize upd H1 p2 (.lst []) = H2 at s2 e2 ⊢
    replace e1 := s2 _ _ e1
    have B2 := B1.same s2
    have s02 : Stp b H H2 := Same.stp (s1.trans s2)
    have nat0 : (((ws.length : Nat) : Int)).toNat = ws.length := Int.toNat_natCast _
    refine ⟨.ref a, rfl, .ref a, ws.length, rfl, .inl ⟨_, SqL.of (s2 _ _ (s1 _ _ ea)), (List.length_map ..).symm⟩, _, rfl, by omega, by omega, for_range (lo := 0) (n := (((ws.length : Nat) : Int)).toNat) (fun i σ H' => ∃ (y4 : Option V) (ls zs : List Str), σ = [some (.ref b), some (.ref a), some (.ref p1), some (.ref p2), y4] ∧ Bag H' b l ∧ Stp b H H' ∧ H' p1 = some (.lst (ls.map V.str)) ∧ H' p2 = some (.lst (zs.map V.str)) ∧ zs.length = i ∧ (zs ++ ls).Perm ws) ⟨_, ws, [], rfl, B2, s02, e1, e2, rfl, by simp⟩ ?_ ?_⟩
    · rintro i σ H6 hi ⟨y4, ls, zs, rfl, B6, s6, f1, f2, lz, pm⟩
      have ll : zs.length + ls.length = ws.length := by rw [← List.length_append]; exact pm.length_eq
      refine ⟨.ref p2, rfl, .inl ⟨rfl, _, SqL.of f2⟩, .ref p1, rfl, .inl ⟨rfl, _, SqL.of f1⟩, .ref b, rfl, .ref p1, rfl, .ref p1, ls.length, rfl, .inl ⟨_, SqL.of f1, by rw [List.length_map]⟩, b, l, _, rfl, B6, by omega, by omega, fun H7 d s7 B7 d0 d1 => ?_⟩
      have hd : d.toNat < ls.length := by omega
      refine ⟨p1, _, d, d.toNat, .str ls[d.toNat], rfl, rfl, s7 _ _ n1 f1, by omega, by omega, (by rw [List.length_map]; exact seqIndex_of d0 (by omega)), (by rw [List.getElem?_map, List.getElem?_eq_getElem hd]; rfl), ?_⟩
      have g2 : (upd H7 p1 (.lst ((ls.map V.str).eraseIdx d.toNat))) p2 = some (.lst (zs.map V.str)) := by
        rw [upd_ne n12.symm]
        exact s7 _ _ n2 f2
      refine ⟨p2, _, _, rfl, rfl, g2, (by rw [List.length_map]; exact Nat.lt_of_le_of_lt (show zs.length ≤ 5000 by omega) (by decide)), ?_⟩
      refine ⟨_, ls.eraseIdx d.toNat, zs ++ [ls[d.toNat]], rfl, (B7.put n1 l1).put n2 l2, ((s6.trans s7).putnew h1).putnew z2, ?_, by rw [upd_same, List.map_append]; rfl, by rw [List.length_append, lz]; rfl, ?_⟩
      · rw [upd_ne n12, upd_same, map_erase]
      · rw [List.append_assoc, List.singleton_append]
        exact ((perm_at hd).append_left zs).trans pm
    · rintro σ H6 ⟨y4, ls, zs, rfl, B6, s6, f1, f2, lz, pm⟩
      refine ⟨.ref p2, rfl, k _ _ zs s6 B6 f2 ?_⟩
      have ll : zs.length + ls.length = ws.length := by rw [← List.length_append]; exact pm.length_eq
      have : ls = [] := List.eq_nil_of_length_eq_zero (by omega)
      rw [this, List.append_nil] at pm
      exact pm
theorem sizes_perm {y : Str} {xs ys : List Str} (h : xs.Perm ys) : (Str.join y xs).cps.size = (Str.join y ys).cps.size := by
  have a := size_glued y xs
  have b := size_glued y ys
  rw [StrLaws.glued_eq_join] at a b
  have e : (xs.map (·.length)).sum = (ys.map (·.length)).sum := (h.map _).sum_nat
  have l := h.length_eq
  show (Str.join y xs).length = (Str.join y ys).length
  rw [a, b, e, l]
theorem join_chars {y : Str} (hy : ∀ c ∈ y.cps.toList, c < 1114112) : ∀ (ps : List Str), (∀ p ∈ ps, ∀ c ∈ p.cps.toList, c < 1114112) → ∀ c ∈ (Str.join y ps).cps.toList, c < 1114112
  | [], _, c, m => by
    have e : (Str.join y []).cps.toList = [] := rfl
    rw [e] at m
    cases m
  | [x], h, c, m => h x (List.mem_cons_self ..) c m
  | x :: q :: r, h, c, m => by
    have e : Str.join y (x :: q :: r) = x ++ y ++ Str.join y (q :: r) := rfl
    rw [e, Str.cps_append, Str.cps_append, Array.toList_append, Array.toList_append] at m
    rcases List.mem_append.mp m with m | m
    · rcases List.mem_append.mp m with m | m
      · exact h x (List.mem_cons_self ..) c m
      · exact hy c m
    · exact join_chars hy (q :: r) (fun p mp => h p (List.mem_cons_of_mem _ mp)) c m
def sp_bent (K : PySem.W.Frag) : Sp := fun vs H Q _ => ∃ (b l : Addr) (z : Str), vs = [.ref b, .str z] ∧ Bag H b l ∧ StrK z ∧ z.cps.size ≤ 2000 ∧ ∀ (H' : Hp) (z' : Str), Stp b H H' → Bag H' b l → StrK z' → z'.cps.size ≤ z.cps.size + 2 → Q (.str z') H'
theorem ok_law_bent_text (T : Txt K w mg Z) : FnOk P w K mg base CX0 3 Z.a_law_bent_text Z.d_law_bent_text ["_law_bag_here", "_law_told"] (sp_bent K) := by
  have G_law_draw : FnOk P w K mg base CX0 1 Z.a_law_draw Z.d_law_draw ["_law_bag_here", "_law_sides"] sp_law_draw := ok_law_draw T
  have G_law_of : FnOk P w K mg base CX0 2 Z.a_law_of Z.d_law_of ["_law_bag_here", "_law_things"] (sp_law_of K) := ok_law_of T
  have G_law_mixed : FnOk P w K mg base CX0 2 Z.a_law_mixed Z.d_law_mixed ["_law_bag_here", "_law_things"] (sp_mixed K) := ok_law_mixed T
  refine T.F_law_bent_text.ok sc_law_bent_text (fun vs H Q E h => ?_) (fun cdv A outer s H vs Q E hr h => ?_)
  · obtain ⟨b, l, z, rfl, _⟩ := h
    rfl
  · obtain ⟨b, l, z, rfl, B, hz, hl, k⟩ := h
    refine ⟨_, (pss_cons (ps_par (i := 2) (j := 3) (by rfl) sc_law_bent_text.nd rfl rfl (by decide) rfl rfl (pa_cons (pe_call G_law_draw (hr.mono (by omega)) (by rfl) T.m_law_draw T.F_law_draw.kp T.b_law_draw .nil pass0 (pa_cons (pv 0) (pa_cons (pe_op op_add (pe_callB call_len (by rfl) T.n_len boot_len (pa_cons (pv 1) pa_nil)) pe_int) pa_nil))) (pa_cons (pe_call G_law_of (hr.mono (by omega)) (by rfl) T.m_law_of T.F_law_of.kp T.b_law_of .nil pass0 (pa_cons (pv 0) (pa_cons (pe_lst (pa_cons pe_str (pa_cons pe_str (pa_cons pe_str (pa_cons pe_str (pa_cons pe_str (pa_cons pe_str (pa_cons pe_str (pa_cons pe_str (pa_cons pe_str (pa_cons pe_str (pa_cons pe_str (pa_cons pe_str pa_nil))))))))))))) pa_nil))) pa_nil)) (by rfl))
      (pss_cons (ps_set (i := 4) sc_law_bent_text.nd rfl (Or.inl rfl) (pe_call G_law_draw (hr.mono (by omega)) (by rfl) T.m_law_draw T.F_law_draw.kp T.b_law_draw .nil pass0 (pa_cons (pv 0) (pa_cons pe_int pa_nil))))
      (pss_cons (ps_if (pt_cmpR op_eq (pv 4) pe_int (nomark _)) (pss_one (ps_ret (pe_join pe_str (pe_call G_law_mixed (hr.mono (by omega)) (by rfl) T.m_law_mixed T.F_law_mixed.kp T.b_law_mixed .nil pass0 (pa_cons (pv 0) (pa_cons (pe_split (pv 1) pe_str) pa_nil)))))) pss_nil)
      (pss_one (ps_ret (pe_op op_add_str (pe_op op_add_str (pe_slice sl_str (pv 1) po_none (po_some (pv 2))) (pe_ifExp (pt_cmpR op_eq (pv 4) pe_int (nomark _)) pe_str (pv 3))) (pe_slice sl_str (pv 1) (po_some (pe_op op_add (pv 2) (pe_ifExp (pt_cmpR op_eq (pv 4) pe_int (nomark _)) pe_int pe_int))) po_none))))))), ?_⟩
    refine ⟨.ref b, rfl, .str z, rfl, .str z, z.cps.size, rfl, ⟨Nat.le_trans hz.1 (by decide), rfl⟩, _, _, rfl, rfl, b, l, _, rfl, B, by omega, by omega, fun H1 sp s1 B1 p0 p1 => ?_⟩
    refine ⟨.ref b, rfl, (by show 12 ≤ sizeLine; decide), fun q hq => ⟨b, l, .ref q, fun v => ∃ g : Str, v = .str g ∧ g.cps.size ≤ 2 ∧ ∀ c ∈ g.cps.toList, c < 1114112, rfl, B1.new hq, .lst (B1.ne hq) (SqL.of upd_same) (by show 0 < 12; decide) (by show 12 ≤ 100000; decide) ?_, fun H2 v s2 B2 hv => ?_⟩⟩
    · intro v m
      have all : ∀ g ∈ ([" ", "0", "1", "9", "r", "a", "A", "-", "+", "_", "\n", "  "] : List Str), g.cps.size ≤ 2 ∧ ∀ c ∈ g.cps.toList, c < 1114112 := by decide +kernel
      have m' : v ∈ ([" ", "0", "1", "9", "r", "a", "A", "-", "+", "_", "\n", "  "] : List Str).map V.str := m
      obtain ⟨g, mg', rfl⟩ := List.mem_map.mp m'
      exact ⟨g, rfl, all g mg'⟩
    obtain ⟨g, rfl, hg2, hgc⟩ := hv
    refine ⟨_, _, rfl, ?_⟩
    replace s2 := s1.trans ((Stp.new hq).trans s2)
    refine ⟨.ref b, rfl, b, l, 5, rfl, B2, by decide, by decide, fun H3 way s3 B3 w0 w1 => ?_⟩
    replace s3 := s2.trans s3
    refine ⟨_, rfl, rfl, _, rfl, ite2 (fun _ => ?_) (fun _ => ?_)⟩
    · obtain ⟨u, ts, hp, hj⟩ := parts_spec z
      obtain ⟨pk, pl⟩ := split_parts hp hz
      refine ⟨⟨_, rfl⟩, .ref b, rfl, .str z, rfl, ⟨z, rfl⟩, z, _, rfl, rfl, (by decide +kernel), Nat.le_trans (Nat.add_le_add_right hz.1 2) (by decide), fun pp hpp => ?_⟩
      rw [hp]
      refine ⟨b, l, pp, u :: ts, rfl, B3.new hpp, upd_same, B3.ne hpp, by omega, fun H4 pz zs s4 B4 ez pm => ?_⟩
      have lz := pm.length_eq
      have mz : ∀ p ∈ zs, p ∈ u :: ts := fun p m => pm.mem_iff.mp m
      have bz : ∀ p ∈ zs, p.length ≤ 2000 := fun p m => by
        have q := (join_mem " " _ p (mz p m)).2
        rw [hj] at q
        exact Nat.le_trans q hl
      refine ⟨_, pz, zs, rfl, rfl, .inl (SqL.of ez), ?_, k _ _ ((s3.trans (Stp.new hpp)).trans s4) B4 ?_ ?_⟩
      · have q := sum_le (zs.map (·.length)) 2000 (by
          intro y m
          obtain ⟨p, m', rfl⟩ := List.mem_map.mp m
          exact bz p m')
        rw [List.length_map] at q
        have l1 : (" " : Str).length = 1 := by decide +kernel
        rw [l1]
        have : zs.length * 2000 ≤ 2001 * 2000 := Nat.mul_le_mul_right _ (by omega)
        omega
      · have e := sizes_perm (y := " ") pm
        rw [hj] at e
        rw [show Txt.join (" " : Str) zs = Str.join " " zs from StrLaws.glued_eq_join _ _]
        exact ⟨by rw [e]; exact hz.1, join_chars (by decide +kernel) zs fun p m => (pk p (mz p m)).2⟩
      · have e := sizes_perm (y := " ") pm
        rw [hj] at e
        rw [show Txt.join (" " : Str) zs = Str.join " " zs from StrLaws.glued_eq_join _ _, e]
        omega
    · obtain ⟨cs, rfl⟩ : ∃ cs : List Nat, z = ⟨cs.toArray⟩ := ⟨z.cps.toList, by cases z; simp⟩
      have hcs : cs.length ≤ 2000 := by simpa using hl
      have hcc : ∀ c ∈ cs, c < 1114112 := fun c m => hz.2 c (by simpa using m)
      have psp : sp.toNat ≤ cs.length := by
        have : (((⟨cs.toArray⟩ : Str).cps.size : Nat) : Int) = (cs.length : Int) := by simp
        omega
      have fin : ∀ (g' : Str) (m : Nat), g'.cps.size ≤ 2 → (∀ c ∈ g'.cps.toList, c < 1114112) → sp.toNat ≤ m → ((⟨(cs.take sp.toNat).toArray⟩ : Str) ++ g').length + (⟨(cs.drop m).toArray⟩ : Str).length ≤ sizeLine ∧ Q (V.str (((⟨(cs.take sp.toNat).toArray⟩ : Str) ++ g') ++ ⟨(cs.drop m).toArray⟩)) H3 := fun g' m h1 h2 h3 => by
        have sz : ((((⟨(cs.take sp.toNat).toArray⟩ : Str) ++ g') ++ ⟨(cs.drop m).toArray⟩)).cps.size = (cs.take sp.toNat).length + g'.cps.size + (cs.drop m).length := by
          rw [Str.cps_append, Str.cps_append, Array.size_append, Array.size_append]
          simp
        have q1 : (cs.take sp.toNat).length = sp.toNat := by rw [List.length_take]; omega
        have q2 : (cs.drop m).length = cs.length - m := List.length_drop ..
        have sz2 : ((((⟨(cs.take sp.toNat).toArray⟩ : Str) ++ g') ++ ⟨(cs.drop m).toArray⟩)).cps.size ≤ cs.length + 2 := by
          rw [sz, q1, q2]
          by_cases h : m ≤ cs.length <;> omega
        refine ⟨?_, k _ _ s3 B3 ⟨by omega, fun c hc => ?_⟩ (by simpa using sz2)⟩
        · rw [← Str.length_append]
          exact Nat.le_trans sz2 (Nat.le_trans (show cs.length + 2 ≤ 3000 by omega) (by decide))
        · rw [Str.cps_append, Str.cps_append, Array.toList_append, Array.toList_append] at hc
          rcases List.mem_append.mp hc with hc | hc
          · rcases List.mem_append.mp hc with hc | hc
            · exact hcc c (List.mem_of_mem_take (by simpa using hc))
            · exact h2 c hc
          · exact hcc c (List.mem_of_mem_drop (by simpa using hc))
      have bz : (⟨cs.toArray⟩ : Str).length ≤ sizeLine := by rw [len_S]; exact Nat.le_trans hcs (by decide)
      refine ⟨_, rfl, .int sp, rfl, sp, rfl, _, rfl, bz, ?_⟩
      rw [cut_to p0]
      have b1 : ∀ g' : Str, g'.cps.size ≤ 2 → (⟨(cs.take sp.toNat).toArray⟩ : Str).length + g'.length ≤ sizeLine := fun g' h => by
        rw [len_S]
        have : g'.length ≤ 2 := h
        exact Nat.le_trans (show (cs.take sp.toNat).length + g'.length ≤ 3000 by rw [List.length_take]; omega) (by decide)
      have es : ("" : Str).cps.size ≤ 2 ∧ ∀ c ∈ ("" : Str).cps.toList, c < 1114112 := by decide +kernel
      refine ⟨_, rfl, rfl, _, rfl, ite2 (fun _ => ?_) (fun _ => ?_)⟩
      · refine ⟨_, _, rfl, rfl, b1 _ es.1, _, rfl, .int sp, rfl, _, rfl, rfl, _, rfl, ite2 (fun _ => ?_) (fun _ => ?_)⟩
        · refine ⟨_, _, rfl, rfl, _, rfl, _, rfl, bz, ?_⟩
          rw [cut_from (by omega)]
          obtain ⟨f1, f2⟩ := fin "" (sp + 0).toNat es.1 es.2 (by omega)
          exact ⟨_, _, rfl, rfl, f1, f2⟩
        · refine ⟨_, _, rfl, rfl, _, rfl, _, rfl, bz, ?_⟩
          rw [cut_from (by omega)]
          obtain ⟨f1, f2⟩ := fin "" (sp + 1).toNat es.1 es.2 (by omega)
          exact ⟨_, _, rfl, rfl, f1, f2⟩
      · refine ⟨.str g, rfl, _, _, rfl, rfl, b1 _ hg2, _, rfl, .int sp, rfl, _, rfl, rfl, _, rfl, ite2 (fun _ => ?_) (fun _ => ?_)⟩
        · refine ⟨_, _, rfl, rfl, _, rfl, _, rfl, bz, ?_⟩
          rw [cut_from (by omega)]
          obtain ⟨f1, f2⟩ := fin g (sp + 0).toNat hg2 hgc (by omega)
          exact ⟨_, _, rfl, rfl, f1, f2⟩
        · refine ⟨_, _, rfl, rfl, _, rfl, _, rfl, bz, ?_⟩
          rw [cut_from (by omega)]
          obtain ⟨f1, f2⟩ := fin g (sp + 1).toNat hg2 hgc (by omega)
          exact ⟨_, _, rfl, rfl, f1, f2⟩
end

open PySem.NumText (AllDigits digitsVal toDigits_digitsVal toDigits_all)
/-! ### a drawn row, written and read back -/
theorem num_can {n : Nat} (h : n ≤ 65535) : isCan (Str.ofString (toString (n : Int))) = true ∧ digitsVal (Str.ofString (toString (n : Int))).cps.toList = n := by
  have sg := PySem.W.KIN.signs_num n
  have vb := PySem.W.KIN.val_back n
  have hd : AllDigits (Str.ofString (toString (n : Int))).cps.toList := by
    intro c hc
    rw [sg] at hc
    obtain ⟨ch, hch, e⟩ := List.mem_map.mp hc
    have r := Nat.isDigit_of_mem_toDigits (by decide) (by decide) hch
    simp only [Char.isDigit, Bool.and_eq_true, decide_eq_true_eq] at r
    rw [← e]
    exact ⟨r.1, r.2⟩
  have len : (Str.ofString (toString (n : Int))).cps.toList.length = (Nat.toDigits 10 n).length := by rw [sg, List.length_map]
  have l2 : (Str.ofString (toString (n : Int))).cps.size = (Nat.toDigits 10 n).length := by rw [← len]; exact Array.length_toList.symm
  have l1 : 1 ≤ (Nat.toDigits 10 n).length := by
    rcases Nat.eq_zero_or_pos (Nat.toDigits 10 n).length with e | e
    · have : Nat.toDigits 10 n = [] := List.eq_nil_of_length_eq_zero e
      have q := sg
      rw [this] at q
      have v0 : n = 0 := by rw [← vb, this]; rfl
      subst v0
      exact absurd this (by decide)
    · exact e
  have l6 : (Str.ofString (toString (n : Int))).cps.size ≤ 6 := by
    have e := int_text_length_le10 (a := (n : Int)) (k := 5) (by decide) (by show n < 10 ^ 5; omega)
    show (Str.ofString (toString (n : Int))).length ≤ 6
    rw [PySem.ofString_length]
    exact e
  refine ⟨?_, by rw [sg, vb]⟩
  unfold isCan
  have ha : (Str.ofString (toString (n : Int))).cps.toList.all dg = true := by
    rw [List.all_eq_true]
    intro c m
    have := hd c m
    simp [dg, this.1, this.2]
  rw [ha, decide_eq_true (by omega : 1 ≤ (Str.ofString (toString (n : Int))).cps.size), decide_eq_true l6, Bool.true_and, Bool.true_and, Bool.true_and, Bool.or_eq_true]
  by_cases h1 : (Str.ofString (toString (n : Int))).cps.size = 1
  · left; exact decide_eq_true h1
  · right
    rw [Bool.not_eq_true', decide_eq_false_iff_not]
    intro h48
    have ta := toDigits_all _ hd
    rw [sg, vb] at ta
    rw [sg] at h48
    cases e : (Nat.toDigits 10 n).map Char.toNat with
    | nil => rw [e] at h48; cases h48
    | cons c r =>
      rw [e] at h48 ta
      cases h48
      have le := congrArg List.length e
      rw [List.length_map, List.length_cons] at le
      rw [List.dropWhile_cons] at ta
      simp only [beq_self_eq_true, if_true] at ta
      have dl : (r.dropWhile (· == 48)).length ≤ r.length := (List.dropWhile_sublist _).length_le
      cases e2 : r.dropWhile (· == 48) with
      | nil =>
        rw [e2] at ta
        have := congrArg List.length ta
        simp at this
        omega
      | cons d q =>
        rw [e2] at ta dl
        have := congrArg List.length ta
        rw [List.length_map] at this
        omega
theorem canon_num {n : Nat} (h : n ≤ 65535) : canon (Str.ofString (toString (n : Int))) = some n := by
  obtain ⟨a, b⟩ := num_can h
  unfold canon
  rw [if_pos a, b]
/-- a word of a row: short, no space, no number -/
def ItS (z : Str) : Prop := z.cps.size ≤ 10 ∧ 32 ∉ z.cps.toList ∧ isCan z = false ∧ ∀ c ∈ z.cps.toList, c < 1114112
def Itm (x : V) : Prop := (∃ z, x = .str z ∧ ItS z) ∨ ∃ n : Nat, x = .int n ∧ n ≤ 65535
theorem ItS.lit {z : Str} (h : (decide (z.cps.size ≤ 10) && (!decide (32 ∈ z.cps.toList) && (!isCan z && z.cps.toList.all fun c => decide (c < 1114112)))) = true) : ItS z := by
  simp only [Bool.and_eq_true, decide_eq_true_eq, Bool.not_eq_true', decide_eq_false_iff_not, List.all_eq_true] at h
  exact ⟨h.1, h.2.1, h.2.2.1, h.2.2.2⟩
theorem Itm.reg {r : V} (h : r ∈ regs) : Itm r := by
  simp only [regs, List.mem_cons, List.not_mem_nil, or_false] at h
  rcases h with rfl | rfl | rfl
  · exact .inl ⟨_, rfl, .lit (by decide +kernel)⟩
  · exact .inl ⟨_, rfl, .lit (by decide +kernel)⟩
  · exact .inl ⟨_, rfl, .lit (by decide +kernel)⟩
theorem ItS.nm {z : Str} (h : Nm z) : ItS z := by
  have al := h.2.2
  rw [List.all_eq_true] at al
  have rng : ∀ c ∈ z.cps.toList, 97 ≤ c ∧ c ≤ 122 := fun c m => by
    have := al c m
    simp only [inL, Bool.and_eq_true, decide_eq_true_eq] at this
    exact this
  refine ⟨Nat.le_trans h.2.1 (by decide), fun m => ?_, ?_, fun c m => ?_⟩
  · have := rng _ m; omega
  · cases q : isCan z with
    | false => rfl
    | true =>
      obtain ⟨c, r, e, hc⟩ := dg_head q
      have := rng c (by rw [e]; exact List.mem_cons_self ..)
      simp only [dg, Bool.and_eq_true, decide_eq_true_eq] at hc
      omega
  · have := rng _ m; omega
theorem Itm.int {i : Int} (h0 : 0 ≤ i) (h1 : i ≤ 65535) : Itm (.int i) := by
  obtain ⟨n, rfl⟩ := Int.eq_ofNat_of_zero_le h0
  exact .inr ⟨n, rfl, by omega⟩
theorem Itm.w {z : Str} (h : (decide (z.cps.size ≤ 10) && (!decide (32 ∈ z.cps.toList) && (!isCan z && z.cps.toList.all fun c => decide (c < 1114112)))) = true) : Itm (.str z) := .inl ⟨z, rfl, .lit h⟩
theorem Itm.n {ts : List Str} (hz : ∀ z ∈ ts, Nm z) {z : Str} (h : z ∈ ts) : Itm (.str z) := .inl ⟨z, rfl, .nm (hz z h)⟩
theorem Rwy.itm {ts : List Str} {xs : List V} (hz : ∀ z ∈ ts, Nm z) (h : Rwy ts xs) : ∀ x ∈ xs, Itm x := by
  rcases h with h | h
  · cases h with
    | put hr h0 h1 => exact memc (.w (by decide +kernel)) (memc (.reg hr) (mem1 (.int h0 h1)))
    | name hr ht => exact memc (.w (by decide +kernel)) (memc (.reg hr) (mem1 (.n hz ht)))
    | ifzero hr ht => exact memc (.w (by decide +kernel)) (memc (.reg hr) (mem1 (.n hz ht)))
    | add hr hs => exact memc (.w (by decide +kernel)) (memc (.reg hr) (mem1 (.reg hs)))
    | take hr hs => exact memc (.w (by decide +kernel)) (memc (.reg hr) (mem1 (.reg hs)))
    | load hr hs h0 h1 => exact memc (.w (by decide +kernel)) (memc (.reg hr) (memc (.reg hs) (mem1 (.int h0 (by omega)))))
    | store hr hs h0 h1 => exact memc (.w (by decide +kernel)) (memc (.reg hr) (memc (.reg hs) (mem1 (.int h0 (by omega)))))
    | jump ht => exact memc (.w (by decide +kernel)) (mem1 (.n hz ht))
    | call ht => exact memc (.w (by decide +kernel)) (mem1 (.n hz ht))
    | callby hr => exact memc (.w (by decide +kernel)) (mem1 (.reg hr))
    | out hr => exact memc (.w (by decide +kernel)) (mem1 (.reg hr))
    | back => exact mem1 (.w (by decide +kernel))
    | halt => exact mem1 (.w (by decide +kernel))
    | room h0 h1 => exact memc (.w (by decide +kernel)) (mem1 (.int (by omega) (by omega)))
  · cases h with
    | word h0 h1 => exact memc (.w (by decide +kernel)) (mem1 (.int h0 h1))
    | address ht => exact memc (.w (by decide +kernel)) (mem1 (.n hz ht))
    | room h0 h1 => exact memc (.w (by decide +kernel)) (mem1 (.int (by omega) (by omega)))
theorem Itm.spec {x : V} (h : Itm x) : figV (strOf x) = x ∧ okT x ∧ (strOf x).cps.size ≤ 10 ∧ 32 ∉ (strOf x).cps.toList ∧ ∀ c ∈ (strOf x).cps.toList, c < 1114112 := by
  rcases h with ⟨z, rfl, h1, h2, h3, h4⟩ | ⟨n, rfl, hn⟩
  · exact ⟨figV_no h3, .inl ⟨z, rfl, Nat.le_trans h1 (by decide)⟩, h1, h2, h4⟩
  · obtain ⟨a, b⟩ := num_can hn
    obtain ⟨ad, s1, s6, _⟩ := isCan_spec a
    refine ⟨?_, .inr ⟨n, rfl, by omega⟩, Nat.le_trans s6 (by decide), fun m => ?_, fun c m => ?_⟩
    · show figV (Str.ofString (toString (n : Int))) = _
      unfold figV
      rw [canon_num hn]
    · have := ad _ m; omega
    · have := ad _ m; omega
theorem row_back {ts : List Str} {xs : List V} (hz : ∀ z ∈ ts, Nm z) (h : Rwy ts xs) : Txt.split (rtext xs) " " = xs.map strOf ∧ lawR (xs.map strOf) = some xs ∧ (∀ x ∈ xs, okT x) ∧ StrK (rtext xs) ∧ (rtext xs).cps.size ≤ 500 := by
  have it := h.itm hz
  obtain ⟨hx, l1, l4⟩ := h.ok (K := default) (H := fun _ => none) (b := (0 : Nat)) hz
  have ok : rowOk xs = true := by
    unfold rowOk
    rcases h with h | h
    · rw [(h.ok (K := default) (H := fun _ => none) (b := (0 : Nat)) hz).2.2.2]; rfl
    · rw [(h.ok (K := default) (H := fun _ => none) (b := (0 : Nat)) hz).2.2.2.1, Bool.or_true]
  have hd : ∃ u r, xs = .str u :: r := by
    rcases h with h | h
    · cases h <;> exact ⟨_, _, rfl⟩
    · cases h <;> exact ⟨_, _, rfl⟩
  have ej : rtext xs = Str.join " " (xs.map strOf) := StrLaws.glued_eq_join _ _
  have len : (rtext xs).cps.size ≤ 500 := by
    have a := size_glued " " (xs.map strOf)
    have l0 : (" " : Str).length = 1 := by decide +kernel
    rw [l0, List.length_map] at a
    have q := sum_le ((xs.map strOf).map (·.length)) 10 (by
      intro y m
      obtain ⟨z, mz, rfl⟩ := List.mem_map.mp m
      obtain ⟨x, mx, rfl⟩ := List.mem_map.mp mz
      exact (it x mx).spec.2.2.1)
    rw [List.length_map, List.length_map] at q
    refine Nat.le_trans (Nat.le_of_eq (show (rtext xs).cps.size = _ from a)) ?_
    omega
  refine ⟨?_, ?_, fun x m => (it x m).spec.2.1, ⟨Nat.le_trans len (by decide), ?_⟩, len⟩
  · refine TL.split_join (s := 32) (S := []) (by decide +kernel) (by decide +kernel) (fun e => ?_) fun p m => ?_
    · have := congrArg List.length e
      rw [List.length_map] at this
      simp at this
      rw [this] at l1
      exact absurd l1 (by decide)
    · obtain ⟨x, mx, rfl⟩ := List.mem_map.mp m
      exact (it x mx).spec.2.2.2.1
  · obtain ⟨u, r, rfl⟩ := hd
    have e : r.map (fun x => figV (strOf x)) = r := by
      rw [List.map_congr_left (g := id) fun x m => (it x (List.mem_cons_of_mem _ m)).spec.1, List.map_id]
    have e2 : (V.str u :: ((r.map strOf).map figV)) = V.str u :: r := by rw [List.map_map]; exact congrArg _ e
    show (if rowOk (V.str u :: ((r.map strOf).map figV)) then some (V.str u :: ((r.map strOf).map figV)) else none) = _
    rw [e2, ok]; rfl
  · rw [ej]
    exact join_chars (by decide +kernel) _ fun p m => by
      obtain ⟨x, mx, rfl⟩ := List.mem_map.mp m
      exact (it x mx).spec.2.2.2.2
/-- what the law reads, written again -/
theorem law_text {u : Str} {ts : List Str} {xs : List V} (h : lawR (u :: ts) = some xs) (hz : ∀ z ∈ u :: ts, StrK z) : rtext xs = Str.join " " (u :: ts) ∧ (∀ x ∈ xs, okT x) ∧ xs.length ≤ 20 ∧ rowOk xs = true ∧ ∀ {K : PySem.W.Frag} {H : Hp} {b : Addr} {n : Nat}, ∀ x ∈ xs, Okv K H b n x := by
  have hr : rowOk (V.str u :: ts.map figV) = true ∧ xs = V.str u :: ts.map figV := by
    unfold lawR at h
    dsimp only at h
    cases q : rowOk (V.str u :: ts.map figV) with
    | true => rw [q] at h; exact ⟨rfl, (Option.some.inj h).symm⟩
    | false => rw [q] at h; cases h
  obtain ⟨hr, rfl⟩ := hr
  have sf : ∀ z, StrK z → strOf (figV z) = z ∧ okT (figV z) := fun z hk => by
    unfold figV
    cases c : canon z with
    | none => exact ⟨rfl, .inl ⟨z, rfl, hk.1⟩⟩
    | some n =>
      have cs := canon_spec c
      exact ⟨cs.2.2.2.1, .inr ⟨n, rfl, cs.2.2.2.2.1⟩⟩
  have em : (ts.map figV).map strOf = ts := by
    rw [List.map_map]
    exact (List.map_congr_left (f := strOf ∘ figV) (g := id) fun z m => (sf z (hz z (List.mem_cons_of_mem _ m))).1).trans (List.map_id _)
  refine ⟨?_, memc (.inl ⟨u, rfl, (hz u (List.mem_cons_self ..)).1⟩) fun x m => ?_, ?_, hr, fun {K H b n} => memc (.str (hz u (List.mem_cons_self ..))) fun x m => ?_⟩
  · show Txt.join " " (u :: (ts.map figV).map strOf) = _
    rw [em]
    exact StrLaws.glued_eq_join _ _
  · obtain ⟨z, mz, rfl⟩ := List.mem_map.mp m
    exact (sf z (hz z (List.mem_cons_of_mem _ mz))).2
  · cases c : kindsOf u with
    | none => rw [rowOk_none c] at hr; cases hr
    | some ks =>
      rw [rowOk_some c] at hr
      unfold fitA at hr
      rw [Bool.and_eq_true, decide_eq_true_eq] at hr
      have := (kinds_spec c).2.2
      rw [List.length_cons]
      omega
  · obtain ⟨z, mz, rfl⟩ := List.mem_map.mp m
    exact figV_okv (hz z (List.mem_cons_of_mem _ mz))
section
variable {P : Program} {w : World} {K : PySem.W.Frag} {mg : Str → Option Value} {base : Heap} {Z : Fs}
def sp_odd3 (K : PySem.W.Frag) : Sp := fun vs H Q _ => ∃ (b l m : Addr) (ms : List V), vs = [.ref b, .ref m] ∧ Bag H b l ∧ H m = some (.lst ms) ∧ m ≠ b ∧ (∀ x ∈ ms, Okv K H b 3 x ∧ rdV x = none) ∧ ms.length ≤ 1000 ∧ ∀ (H' : Hp) (v : V), Stp b H H' → Bag H' b l → Okv K H' b 3 v → rdV v = none → Q v H'
theorem ok_law_odd3 (T : Txt K w mg Z) : FnOk P w K mg base CX0 3 Z.a_law_odd Z.d_law_odd ["_law_bag_here", "_law_more"] (sp_odd3 K) := by
  have G_law_of : FnOk P w K mg base CX0 2 Z.a_law_of Z.d_law_of ["_law_bag_here", "_law_things"] (sp_law_of K) := ok_law_of T
  refine T.F_law_odd.ok sc_law_odd (fun vs H Q E h => ?_) (fun cdv A outer s H vs Q E hr h => ?_)
  · obtain ⟨b, l, m, ms, rfl, _⟩ := h
    rfl
  · obtain ⟨b, l, m, ms, rfl, B, hm, nm, hms, lms, k⟩ := h
    refine ⟨_, (pss_one (ps_ret (pe_call G_law_of (hr.mono (by omega)) (by rfl) T.m_law_of T.F_law_of.kp T.b_law_of .nil pass0 (pa_cons (pv 0) (pa_cons (pe_op op_cat (pe_lst (pa_cons pe_non (pa_cons pe_bl (pa_cons pe_bl (pa_cons pe_str (pa_cons pe_str (pa_cons (pe_un un_neg pe_int) (pa_cons pe_int (pa_cons (pe_tup pa_nil) (pa_cons (pe_lst pa_nil) (pa_cons (pe_tup (pa_cons pe_int pa_nil)) (pa_cons (pe_lst (pa_cons pe_str pa_nil)) (pa_cons pe_str (pa_cons (pe_tup (pa_cons pe_str (pa_cons pe_str pa_nil))) (pa_cons (pe_lst (pa_cons pe_non pa_nil)) pa_nil))))))))))))))) (pv 1)) pa_nil))))), ?_⟩
    refine ⟨.ref b, rfl, 1, rfl, Nat.zero_le _, fun p1 h1 => ?_⟩
    have n1 := B.ne h1
    have s1 : Same H (upd H p1 (.tup [])) := Same.new h1
    have e1 : (upd H p1 (.tup [])) p1 = some (.tup []) := upd_same
    generalize upd H p1 (.tup []) = H1 at s1 e1 ⊢
    refine ⟨Nat.zero_le _, fun p2 h2 => ?_⟩
    have n2 := (B.same s1).ne h2
    have s2 : Same H1 (upd H1 p2 (.lst [])) := Same.new h2
    have e2 : (upd H1 p2 (.lst [])) p2 = some (.lst []) := upd_same
    generalize upd H1 p2 (.lst []) = H2 at s2 e2 ⊢
    refine ⟨(by show 1 ≤ sizeLine; decide), fun p3 h3 => ?_⟩
    have n3 := (B.same (s1.trans s2)).ne h3
    have s3 : Same H2 (upd H2 p3 (.tup [V.int 1])) := Same.new h3
    have e3 : (upd H2 p3 (.tup [V.int 1])) p3 = some (.tup [V.int 1]) := upd_same
    generalize upd H2 p3 (.tup [V.int 1]) = H3 at s3 e3 ⊢
    refine ⟨(by show 1 ≤ sizeLine; decide), fun p4 h4 => ?_⟩
    have n4 := (B.same ((s1.trans s2).trans s3)).ne h4
    have s4 : Same H3 (upd H3 p4 (.lst [V.str "a"])) := Same.new h4
    have e4 : (upd H3 p4 (.lst [V.str "a"])) p4 = some (.lst [V.str "a"]) := upd_same
    generalize upd H3 p4 (.lst [V.str "a"]) = H4 at s4 e4 ⊢
    refine ⟨(by show 2 ≤ sizeLine; decide), fun p5 h5 => ?_⟩
    have n5 := (B.same (((s1.trans s2).trans s3).trans s4)).ne h5
    have s5 : Same H4 (upd H4 p5 (.tup [V.str "a", V.str "b"])) := Same.new h5
    have e5 : (upd H4 p5 (.tup [V.str "a", V.str "b"])) p5 = some (.tup [V.str "a", V.str "b"]) := upd_same
    generalize upd H4 p5 (.tup [V.str "a", V.str "b"]) = H5 at s5 e5 ⊢
    refine ⟨(by show 1 ≤ sizeLine; decide), fun p6 h6 => ?_⟩
    have n6 := (B.same ((((s1.trans s2).trans s3).trans s4).trans s5)).ne h6
    have s6 : Same H5 (upd H5 p6 (.lst [V.non])) := Same.new h6
    have e6 : (upd H5 p6 (.lst [V.non])) p6 = some (.lst [V.non]) := upd_same
    generalize upd H5 p6 (.lst [V.non]) = H6 at s6 e6 ⊢
    refine ⟨(by show 14 ≤ sizeLine; decide), fun p7 h7 => ?_⟩
    have s7 : Same H6 (upd H6 p7 (.lst [V.non, V.bl true, V.bl false, V.str "", V.str "A", V.int (-1), V.int 999999999, V.ref p1, V.ref p2, V.ref p3, V.ref p4, V.str "a b", V.ref p5, V.ref p6])) := Same.new h7
    have e7 : (upd H6 p7 (.lst [V.non, V.bl true, V.bl false, V.str "", V.str "A", V.int (-1), V.int 999999999, V.ref p1, V.ref p2, V.ref p3, V.ref p4, V.str "a b", V.ref p5, V.ref p6])) p7 = some (.lst [V.non, V.bl true, V.bl false, V.str "", V.str "A", V.int (-1), V.int 999999999, V.ref p1, V.ref p2, V.ref p3, V.ref p4, V.str "a b", V.ref p5, V.ref p6]) := upd_same
    generalize upd H6 p7 (.lst [V.non, V.bl true, V.bl false, V.str "", V.str "A", V.int (-1), V.int 999999999, V.ref p1, V.ref p2, V.ref p3, V.ref p4, V.str "a b", V.ref p5, V.ref p6]) = H7 at s7 e7 ⊢
    have t7 : Same H H7 := (((((s1.trans s2).trans s3).trans s4).trans s5).trans s6).trans s7
    refine ⟨.ref m, rfl, p7, m, _, ms, rfl, rfl, e7, t7 _ _ hm, (by show 14 + ms.length ≤ sizeLine; exact Nat.le_trans (Nat.add_le_add_left lms 14) (by decide)), fun p8 h8 => ?_⟩
    have n8 := (B.same t7).ne h8
    have s8 := Same.new (o := .lst ([V.non, V.bl true, V.bl false, V.str "", V.str "A", V.int (-1), V.int 999999999, V.ref p1, V.ref p2, V.ref p3, V.ref p4, V.str "a b", V.ref p5, V.ref p6] ++ ms)) h8
    refine ⟨b, l, .ref p8, fun v => Okv K (upd H7 p8 (.lst ([V.non, V.bl true, V.bl false, V.str "", V.str "A", V.int (-1), V.int 999999999, V.ref p1, V.ref p2, V.ref p3, V.ref p4, V.str "a b", V.ref p5, V.ref p6] ++ ms))) b 3 v ∧ rdV v = none, rfl, (B.same t7).new h8, .lst n8 (SqL.of upd_same) (by simp) (by simp; omega) ?_, fun H' v s' B' ov => k _ _ ((Same.stp (t7.trans s8)).trans s') B' (ov.1.stp s') ov.2⟩
    have u6 : Same H6 _ := s7.trans s8
    have u5 : Same H5 _ := s6.trans u6
    have u4 : Same H4 _ := s5.trans u5
    have u3 : Same H3 _ := s4.trans u4
    have u2 : Same H2 _ := s3.trans u3
    have u1 : Same H1 _ := s2.trans u2
    refine mema ?_ fun x hx => ⟨(hms x hx).1.stp (Same.stp (t7.trans s8)), (hms x hx).2⟩
    refine memc ⟨.non, rfl⟩ (memc ⟨.bl, rfl⟩ (memc ⟨.bl, rfl⟩ (memc ⟨.lit (by decide +kernel), by decide +kernel⟩ (memc ⟨.lit (by decide +kernel), by decide +kernel⟩ (memc ⟨.int, rfl⟩ (memc ⟨.int, rfl⟩ (memc ⟨?_, rfl⟩ (memc ⟨?_, rfl⟩ (memc ⟨?_, rfl⟩ (memc ⟨?_, rfl⟩ (memc ⟨.lit (by decide +kernel), by decide +kernel⟩ (memc ⟨?_, rfl⟩ (mem1 ⟨?_, rfl⟩)))))))))))))
    · exact .tup0 n1 (SqT.of (u1 _ _ e1)) (by decide) mem0
    · exact .lst0 n2 (SqL.of (u2 _ _ e2)) (by decide) mem0
    · exact .tup0 n3 (SqT.of (u3 _ _ e3)) (by decide) (mem1 .int)
    · exact .lst0 n4 (SqL.of (u4 _ _ e4)) (by decide) (mem1 (.lit (by decide +kernel)))
    · exact .tup0 n5 (SqT.of (u5 _ _ e5)) (by decide) (memc (.lit (by decide +kernel)) (mem1 (.lit (by decide +kernel))))
    · exact .lst0 n6 (SqL.of (u6 _ _ e6)) (by decide) (mem1 .non)
end

section
variable {P : Program} {w : World} {K : PySem.W.Frag} {mg : Str → Option Value} {base : Heap} {Z : Fs}
/-! ### the law -/
def sp_law (K : PySem.W.Frag) : Sp := fun vs H Q _ => ∃ (a : Addr) (ns : List Int), vs = [.ref a] ∧ SqL K H a (ns.map V.int) ∧ ns.length ≤ 63 ∧ ∀ H', Q (.bl true) H'
theorem paired_get {α β : Type} {R : α → β → Prop} : ∀ {xs : List α} {ys : List β}, Paired R xs ys → ∀ {i : Nat} {u : α} {v : β}, xs[i]? = some u → ys[i]? = some v → R u v
  | _, _, .nil, i, u, v, e, _ => by cases e
  | a :: _, b :: _, .cons r _, 0, u, v, e, f => by cases e; cases f; exact r
  | _ :: _, _ :: _, .cons _ t, i + 1, u, v, e, f => paired_get t (i := i) e f
theorem Eqd.of {H : Hp} {a b : Addr} {xs ys : List V} {n : Nat} (h1 : SqL K H a xs) (h2 : SqL K H b ys) (h : Paired (Eqd K H n) xs ys) (hl : xs.length ≤ 100000) : Eqd K H (n + 1) (.ref a) (.ref b) :=
  .inr ⟨a, b, xs, ys, rfl, rfl, .inl ⟨h1, h2⟩, Paired.length h, hl, fun _ _ _ hu hv => paired_get h hu hv⟩
theorem Tls.same {H H' : Hp} {b t : Addr} {ts : List Str} (s : Same H H') (h : Tls H b t ts) : Tls H' b t ts := ⟨s _ _ h.1, h.2⟩
theorem row_eqd {H : Hp} {p q : Addr} {xs : List V} {n : Nat} (h1 : H p = some (.tup xs)) (h2 : H q = some (.tup xs)) (hx : ∀ x ∈ xs, okT x) (hl : xs.length ≤ 100000) : Eqd K H (n + 1) (.ref p) (.ref q) :=
  Eqd.tups (SqT.of h1) (SqT.of h2) hl fun x m => by
    rcases hx x m with ⟨z, rfl, _⟩ | ⟨n, rfl, _⟩
    · exact Eqd.flat rfl
    · exact Eqd.flat rfl
/-- what was read: none, or a tuple -/
def DueV (H : Hp) (v : V) (r : Option (List V)) : Prop := (r = none ∧ v = .non) ∨ ∃ p xs, r = some xs ∧ v = .ref p ∧ H p = some (.tup xs)
theorem DueV.same {H H' : Hp} {v : V} {r : Option (List V)} (s : Same H H') (h : DueV H v r) : DueV H' v r := by
  rcases h with h | ⟨p, xs, h1, h2, h3⟩
  · exact .inl h
  · exact .inr ⟨p, xs, h1, h2, s _ _ h3⟩
theorem DueV.stp {H H' : Hp} {b l : Addr} {v : V} {r : Option (List V)} (s : Stp b H H') (B : Bag H b l) (h : DueV H v r) : DueV H' v r := by
  rcases h with h | ⟨p, xs, h1, h2, h3⟩
  · exact .inl h
  · obtain ⟨_, _, _, _, _, g1, _⟩ := id B
    exact .inr ⟨p, xs, h1, h2, s _ _ (ne_of h3 g1 (by intro z; cases z)) h3⟩
def litsR : List Str := ["put r0 00", "put r0 +1", "put r0 65535", "put r0 65536", "put r0 -0", "room 1", "room 0", "room 120", "room 121", "word 0", "word 00", "address a", "address abcdefg", "halt ", " halt", "halt\n", "jump  a", "jump r0", "jump put", "load r0 r1 15", "load r0 r1 16", "load r0 r1", "out r3", "put r0 1_0", "room 012", "name r0 r0", "Halt", "near r0 a"]
theorem ok_law (T : Txt K w mg Z) : FnOk P w K mg base CX0 6 Z.a_law Z.d_law ["_law_script"] (sp_law K) := by
  have G_law_bag : FnOk P w K mg base CX0 1 Z.a_law_bag Z.d_law_bag ["_law_script"] (sp_law_bag K) := ok_law_bag T
  have G_law_titles : FnOk P w K mg base CX0 3 Z.a_law_titles Z.d_law_titles ["_law_bag_here", "_law_many"] (sp_law_titles K) := ok_law_titles T
  have G_law_code_row : FnOk P w K mg base CX0 4 Z.a_law_code_row Z.d_law_code_row ["_law_bag_here", "_law_titles_here"] sp_law_code_row := ok_law_code_row T
  have G_law_data_row : FnOk P w K mg base CX0 4 Z.a_law_data_row Z.d_law_data_row ["_law_bag_here", "_law_titles_here"] sp_law_data_row := ok_law_data_row T
  have G_law_last_row : FnOk P w K mg base CX0 3 Z.a_law_last_row Z.d_law_last_row ["_law_bag_here", "_law_titles_here"] sp_law_last_row := ok_law_last_row T
  have G_law_row_text : FnOk P w K mg base CX0 1 Z.a_law_row_text Z.d_law_row_text ["_law_one"] (sp_rtext K) := ok_law_row_text T
  have G_row_text : FnOk P w K mg base CX0 1 Z.a_row_text Z.d_row_text ["row"] (sp_rtext K) := ok_row_text T
  have G_read_row : FnOk P w K mg base CX0 5 Z.a_read_row Z.d_read_row ["text"] (sp_read K) := ok_read_row T
  have G_law_bent_text : FnOk P w K mg base CX0 3 Z.a_law_bent_text Z.d_law_bent_text ["_law_bag_here", "_law_told"] (sp_bent K) := ok_law_bent_text T
  have G_law_row_of : FnOk P w K mg base CX0 3 Z.a_law_row_of Z.d_law_row_of ["_law_words", "_law_side"] (sp_rowof K) := ok_law_row_of T
  have G_law_odd : FnOk P w K mg base CX0 3 Z.a_law_odd Z.d_law_odd ["_law_bag_here", "_law_more"] (sp_odd3 K) := ok_law_odd3 T
  have G_is_code_row : FnOk P w K mg base CX0 4 Z.a_is_code_row Z.d_is_code_row ["value"] (sp_is_code_row K) := ok_is_code_row T
  have G_is_data_row : FnOk P w K mg base CX0 4 Z.a_is_data_row Z.d_is_data_row ["value"] (sp_is_data_row K) := ok_is_data_row T
  have G_law_same : FnOk P w K mg base CX0 4 Z.a_law_same Z.d_law_same ["_law_found", "_law_due"] (sp_law_same K 3) := ok_law_same T 3
  refine T.F_law.ok sc_law (fun vs H Q E h => ?_) (fun cdv A outer s H vs Q E hr h => ?_)
  · obtain ⟨a, ns, rfl, _⟩ := h
    rfl
  · obtain ⟨a, ns, rfl, hS, hlen, k⟩ := h
    refine ⟨_, (pss_cons (ps_set (i := 1) sc_law.nd rfl (Or.inl rfl) (pe_call G_law_bag (hr.mono (by omega)) (by rfl) T.m_law_bag T.F_law_bag.kp T.b_law_bag .nil pass0 (pa_cons (pv 0) pa_nil)))
      (pss_cons (ps_set (i := 2) sc_law.nd rfl (Or.inl rfl) (pe_call G_law_titles (hr.mono (by omega)) (by rfl) T.m_law_titles T.F_law_titles.kp T.b_law_titles .nil pass0 (pa_cons (pv 1) (pa_cons pe_int pa_nil))))
      (pss_cons (ps_for PassesOwn.never rfl (pi_range1 (by rfl) T.n_range (pa_cons pe_int pa_nil)) (pg_name (i := 3) sc_law.nd rfl (Or.inl rfl)) (C8.pss_cut (ps_set (i := 4) sc_law.nd rfl (Or.inl rfl) (pe_ifExp (pt_cmpR op_lt (pv 3) pe_int (nomark _)) (pe_call G_law_code_row (hr.mono (by omega)) (by rfl) T.m_law_code_row T.F_law_code_row.kp T.b_law_code_row .nil pass0 (pa_cons (pv 1) (pa_cons (pv 2) pa_nil))) (pe_ifExp (pt_cmpR op_lt (pv 3) pe_int (nomark _)) (pe_call G_law_last_row (hr.mono (by omega)) (by rfl) T.m_law_last_row T.F_law_last_row.kp T.b_law_last_row .nil pass0 (pa_cons (pv 1) (pa_cons (pv 2) pa_nil))) (pe_call G_law_data_row (hr.mono (by omega)) (by rfl) T.m_law_data_row T.F_law_data_row.kp T.b_law_data_row .nil pass0 (pa_cons (pv 1) (pa_cons (pv 2) pa_nil))))))
      (pss_cons (ps_set (i := 5) sc_law.nd rfl (Or.inl rfl) (pe_call G_law_row_text (hr.mono (by omega)) (by rfl) T.m_law_row_text T.F_law_row_text.kp T.b_law_row_text .nil pass0 (pa_cons (pv 4) pa_nil)))
      (pss_cons (ps_if (pt_not (pt_val (pe_call G_law_same (hr.mono (by omega)) (by rfl) T.m_law_same T.F_law_same.kp T.b_law_same .nil pass0 (pa_cons (pe_lst (pa_cons (pe_call G_row_text (hr.mono (by omega)) (by rfl) T.m_row_text T.F_row_text.kp T.b_row_text .nil pass0 (pa_cons (pv 4) pa_nil)) (pa_cons (pe_callN0 G_row_text (hr.mono (by omega)) (by rfl) T.m_row_text T.F_row_text.kp T.k_row_text_0_row pass0 (pk_cons (pv 4) pk_nil)) (pa_cons (pe_call G_read_row (hr.mono (by omega)) (by rfl) T.m_read_row T.F_read_row.kp T.b_read_row .nil pass0 (pa_cons (pv 5) pa_nil)) (pa_cons (pe_callN0 G_read_row (hr.mono (by omega)) (by rfl) T.m_read_row T.F_read_row.kp T.k_read_row_0_text pass0 (pk_cons (pv 5) pk_nil)) pa_nil))))) (pa_cons (pe_lst (pa_cons (pv 5) (pa_cons (pv 5) (pa_cons (pv 4) (pa_cons (pv 4) pa_nil))))) pa_nil))))) (pss_one (ps_ret pe_bl)) pss_nil)
      (C8.pss_cut (ps_set (i := 6) sc_law.nd rfl (Or.inl rfl) (pe_ifExp (pt_cmpR op_gt (pv 3) pe_int (nomark _)) (pe_call G_law_bent_text (hr.mono (by omega)) (by rfl) T.m_law_bent_text T.F_law_bent_text.kp T.b_law_bent_text .nil pass0 (pa_cons (pv 1) (pa_cons (pe_call G_law_bent_text (hr.mono (by omega)) (by rfl) T.m_law_bent_text T.F_law_bent_text.kp T.b_law_bent_text .nil pass0 (pa_cons (pv 1) (pa_cons (pv 5) pa_nil))) pa_nil))) (pe_call G_law_bent_text (hr.mono (by omega)) (by rfl) T.m_law_bent_text T.F_law_bent_text.kp T.b_law_bent_text .nil pass0 (pa_cons (pv 1) (pa_cons (pv 5) pa_nil)))))
      (C8.pss_cut (ps_set (i := 7) sc_law.nd rfl (Or.inl rfl) (pe_call G_law_row_of (hr.mono (by omega)) (by rfl) T.m_law_row_of T.F_law_row_of.kp T.b_law_row_of .nil pass0 (pa_cons (pe_split (pv 6) pe_str) (pa_cons pe_str pa_nil))))
      (C8.pss_cut (ps_set (i := 8) sc_law.nd rfl (Or.inl rfl) (pe_call G_read_row (hr.mono (by omega)) (by rfl) T.m_read_row T.F_read_row.kp T.b_read_row .nil pass0 (pa_cons (pv 6) pa_nil)))
      (pss_cons (ps_if (pt_not (pt_val (pe_call G_law_same (hr.mono (by omega)) (by rfl) T.m_law_same T.F_law_same.kp T.b_law_same .nil pass0 (pa_cons (pv 8) (pa_cons (pv 7) pa_nil))))) (pss_one (ps_ret pe_bl)) pss_nil)
      (C8.pss_cut (ps_if (PW.pt (pw_and (pt_cmp (pc_notN (pv 7))) (pw_and1 (PW.pt (pw_or (pt_cmpR op_ne (pe_call G_row_text (hr.mono (by omega)) (by rfl) T.m_row_text T.F_row_text.kp T.b_row_text .nil pass0 (pa_cons (pv 8) pa_nil)) (pv 6) (nomark _)) (pw_or1 (pt_not (PW.pt (pw_or (pt_val (pe_call G_is_code_row (hr.mono (by omega)) (by rfl) T.m_is_code_row T.F_is_code_row.kp T.b_is_code_row .nil pass0 (pa_cons (pv 8) pa_nil))) (pw_or1 (pt_val (pe_call G_is_data_row (hr.mono (by omega)) (by rfl) T.m_is_data_row T.F_is_data_row.kp T.b_is_data_row .nil pass0 (pa_cons (pv 8) pa_nil))))))))))))) (pss_one (ps_ret pe_bl)) pss_nil)
      (pss_one (ps_if (pt_cmp (pc_notN (pe_call G_read_row (hr.mono (by omega)) (by rfl) T.m_read_row T.F_read_row.kp T.b_read_row .nil pass0 (pa_cons (pe_call G_law_odd (hr.mono (by omega)) (by rfl) T.m_law_odd T.F_law_odd.kp T.b_law_odd .nil pass0 (pa_cons (pv 1) (pa_cons (pe_lst (pa_cons (pv 4) (pa_cons (pe_lst (pa_cons (pv 5) pa_nil)) (pa_cons (pe_tup (pa_cons (pv 5) pa_nil)) (pa_cons pe_int pa_nil))))) pa_nil))) pa_nil)))) (pss_one (ps_ret pe_bl)) pss_nil)))))))))))
      (pss_cons (ps_set (i := 9) sc_law.nd rfl (Or.inl rfl) (pe_lst (pa_cons pe_str (pa_cons pe_str (pa_cons pe_str (pa_cons pe_str (pa_cons pe_str (pa_cons pe_str (pa_cons pe_str (pa_cons pe_str (pa_cons pe_str pa_nil)))))))))))
      (pss_cons (ps_set (i := 9) sc_law.nd rfl (Or.inl rfl) (pe_op op_cat (pv 9) (pe_lst (pa_cons pe_str (pa_cons pe_str (pa_cons pe_str (pa_cons pe_str (pa_cons pe_str (pa_cons pe_str (pa_cons pe_str (pa_cons pe_str (pa_cons pe_str (pa_cons pe_str pa_nil)))))))))))))
      (pss_cons (ps_set (i := 9) sc_law.nd rfl (Or.inl rfl) (pe_op op_cat (pv 9) (pe_lst (pa_cons pe_str (pa_cons pe_str (pa_cons pe_str (pa_cons pe_str (pa_cons pe_str (pa_cons pe_str (pa_cons pe_str (pa_cons pe_str (pa_cons pe_str pa_nil))))))))))))
      (pss_cons (ps_for PassesOwn.never rfl (pi_list (pv 9)) (pg_name (i := 5) sc_law.nd rfl (Or.inl rfl)) (pss_one (ps_if (pt_not (pt_val (pe_call G_law_same (hr.mono (by omega)) (by rfl) T.m_law_same T.F_law_same.kp T.b_law_same .nil pass0 (pa_cons (pe_call G_read_row (hr.mono (by omega)) (by rfl) T.m_read_row T.F_read_row.kp T.b_read_row .nil pass0 (pa_cons (pv 5) pa_nil)) (pa_cons (pe_call G_law_row_of (hr.mono (by omega)) (by rfl) T.m_law_row_of T.F_law_row_of.kp T.b_law_row_of .nil pass0 (pa_cons (pe_split (pv 5) pe_str) (pa_cons pe_str pa_nil))) pa_nil))))) (pss_one (ps_ret pe_bl)) pss_nil)))
      (pss_one (ps_ret pe_bl))))))))), ?_⟩
    refine ⟨.ref a, rfl, a, ns, rfl, hS, hlen, fun H0 b l s0 hb0 _ B0 => ?_⟩
    refine ⟨.ref b, rfl, b, l, rfl, B0, fun H1 t zs s1 B1 z1 nt nl e1 lz hz => ?_⟩
    have T1 : Tls H1 b t zs := ⟨e1, nt, by omega, by rw [lz]; decide⟩
    clear s0 s1 z1 B0 hb0 hS
    refine ⟨14, rfl, by decide, by decide, for_range (lo := 0) (n := (14 : Int).toNat) (fun i σ H' => ∃ (y3 y4 y5 y6 y7 y8 : Option V), σ = [some (.ref a), some (.ref b), some (.ref t), y3, y4, y5, y6, y7, y8, none] ∧ Bag H' b l ∧ Tls H' b t zs) ⟨_, _, _, _, _, _, rfl, B1, T1⟩ ?_ ?_⟩
    · rintro i σ H2 hi ⟨y3, y4, y5, y6, y7, y8, rfl, B2, T2⟩
      -- one
      refine ⟨fun σ' H' => ∃ (o : Addr) (xs : List V), σ' = [some (.ref a), some (.ref b), some (.ref t), some (.int (0 + (i : Int))), some (.ref o), y5, y6, y7, y8, none] ∧ Bag H' b l ∧ Tls H' b t zs ∧ H' o = some (.tup xs) ∧ o ≠ b ∧ Rwy zs xs, ?_, ?_⟩
      · refine ⟨_, rfl, _, _, rfl, rfl, _, rfl, ite2 (fun _ => ?_) (fun _ => ?_)⟩
        · exact ⟨.ref b, rfl, .ref t, rfl, b, l, t, zs, rfl, B2, T2, fun H3 o xs s3 B3 eo no hx => ⟨o, xs, rfl, B3, T2.stp s3, eo, no, .inl hx⟩⟩
        · refine ⟨_, rfl, _, _, rfl, rfl, _, rfl, ite2 (fun _ => ?_) (fun _ => ?_)⟩
          · exact ⟨.ref b, rfl, .ref t, rfl, b, l, t, zs, rfl, B2, T2, fun H3 o xs s3 B3 eo no hx => ⟨o, xs, rfl, B3, T2.stp s3, eo, no, .inl hx⟩⟩
          · exact ⟨.ref b, rfl, .ref t, rfl, b, l, t, zs, rfl, B2, T2, fun H3 o xs s3 B3 eo no hx => ⟨o, xs, rfl, B3, T2.stp s3, eo, no, .inr hx⟩⟩
      clear B2 T2
      rintro σ H2 ⟨o, xs, rfl, B2, T2, eo, no, hx⟩
      obtain ⟨rb1, rb2, rb3, rb4, rb5⟩ := row_back hz hx
      have l4 := (hx.ok (K := K) (H := H2) (b := b) hz).2.2
      have rd : rdV (.str (rtext xs)) = some xs := by
        show readR (Txt.split (rtext xs) " ") = _
        rw [rb1, read_law, rb2]
      -- told
      refine ⟨.ref o, rfl, o, xs, rfl, SqT.of eo, rb3, by omega, fun H3 s3 => ?_⟩
      have B3 := B2.same s3
      have eo3 := s3 _ _ eo
      refine ⟨.ref o, rfl, o, xs, rfl, SqT.of eo3, rb3, by omega, fun H4 s4 => ?_⟩
      have eo4 := s4 _ _ eo3
      refine ⟨.ref o, rfl, rfl, rfl, o, xs, rfl, SqT.of eo4, rb3, by omega, fun H5 s5 => ?_⟩
      have s35 := s4.trans s5
      refine ⟨.str (rtext xs), rfl, .str (rtext xs), b, 0, rfl, .str rb4, (fun e => by rw [rd] at e; cases e), fun ys ey H6 p1 s6 z6 e6 => ?_⟩
      obtain rfl : ys = xs := by rw [rd] at ey; exact (Option.some.inj ey).symm
      refine ⟨.str (rtext ys), rfl, rfl, rfl, .str (rtext ys), b, 0, rfl, .str rb4, (fun e => by rw [rd] at e; cases e), fun xs' ey' H7 p2 s7 z7 e7 => ?_⟩
      obtain rfl : xs' = ys := by rw [rd] at ey'; exact (Option.some.inj ey').symm
      have s37 := (s35.trans s6).trans s7
      refine ⟨(by show 4 ≤ sizeLine; decide), fun u hu => ?_⟩
      have s8 : Same H7 (upd H7 u (.lst [V.str (rtext xs'), V.str (rtext xs'), V.ref p1, V.ref p2])) := Same.new hu
      have e8 : (upd H7 u (.lst [V.str (rtext xs'), V.str (rtext xs'), V.ref p1, V.ref p2])) u = some (.lst [V.str (rtext xs'), V.str (rtext xs'), V.ref p1, V.ref p2]) := upd_same
      generalize upd H7 u (.lst [V.str (rtext xs'), V.str (rtext xs'), V.ref p1, V.ref p2]) = H8 at s8 e8 ⊢
      refine ⟨.str (rtext xs'), rfl, .str (rtext xs'), rfl, .ref o, rfl, .ref o, rfl, (by show 4 ≤ sizeLine; decide), fun v hv => ?_⟩
      have s9 : Same H8 (upd H8 v (.lst [V.str (rtext xs'), V.str (rtext xs'), V.ref o, V.ref o])) := Same.new hv
      have e9 : (upd H8 v (.lst [V.str (rtext xs'), V.str (rtext xs'), V.ref o, V.ref o])) v = some (.lst [V.str (rtext xs'), V.str (rtext xs'), V.ref o, V.ref o]) := upd_same
      generalize upd H8 v (.lst [V.str (rtext xs'), V.str (rtext xs'), V.ref o, V.ref o]) = H9 at s9 e9 ⊢
      have eo9 := s9 _ _ (s8 _ _ (s37 _ _ eo3))
      refine ⟨.ref u, .ref v, rfl, Eqd.of (SqL.of (s9 _ _ e8)) (SqL.of e9) (.cons (.flat rfl) (.cons (.flat rfl) (.cons (row_eqd (s9 _ _ (s8 _ _ (s7 _ _ e6))) eo9 rb3 (by omega)) (.cons (row_eqd (s9 _ _ (s8 _ _ e7)) eo9 rb3 (by omega)) .nil)))) (by show 4 ≤ 100000; decide), fun H10 s10 => ⟨true, rfl, iteF ?_⟩⟩
      have s310 := ((s37.trans s8).trans s9).trans s10
      have B10 := B3.same s310
      have T10 := (T2.same s3).same s310
      have eo10 := s310 _ _ eo3
      -- bent
      refine ⟨fun σ' H' => ∃ (z : Str), σ' = [some (.ref a), some (.ref b), some (.ref t), some (.int (0 + (i : Int))), some (.ref o), some (.str (rtext xs')), some (.str z), y7, y8, none] ∧ Bag H' b l ∧ Tls H' b t zs ∧ H' o = some (.tup xs') ∧ StrK z ∧ z.cps.size ≤ 1000, ?_, ?_⟩
      · refine ⟨_, rfl, _, _, rfl, rfl, _, rfl, ite2 (fun _ => ?_) (fun _ => ?_)⟩
        · refine ⟨.ref b, rfl, .ref b, rfl, .str (rtext xs'), rfl, b, l, _, rfl, B10, rb4, by omega, fun H11 z1 s11 B11 k11 c11 => ?_⟩
          refine ⟨b, l, _, rfl, B11, k11, by omega, fun H12 z2 s12 B12 k12 c12 => ?_⟩
          have s := s11.trans s12
          exact ⟨z2, rfl, B12, T10.stp s, s _ _ no eo10, k12, by omega⟩
        · refine ⟨.ref b, rfl, .str (rtext xs'), rfl, b, l, _, rfl, B10, rb4, by omega, fun H11 z1 s11 B11 k11 c11 => ?_⟩
          exact ⟨z1, rfl, B11, T10.stp s11, s11 _ _ no eo10, k11, by omega⟩
      clear s310 s10 s9 s8 s37 s7 s6 s35 s5 s4 s3 e8 e9 eo9 eo10 eo4 eo3 eo e7 e6 z6 z7 B10 T10 B3 B2 T2 hu hv ey ey' rd
      rintro σ H3 ⟨z, rfl, B3, T3, eo3, hz3, lz3⟩
      obtain ⟨w1, ws, hp, hj⟩ := parts_spec z
      obtain ⟨pk, pl⟩ := split_parts hp hz3
      have rd : rdV (.str z) = lawR (w1 :: ws) := by
        show readR (Txt.split z " ") = _
        rw [hp, read_law]
      have lw : (w1 :: ws).length ≤ 5000 := by omega
      -- due
      refine ⟨fun σ' H' => ∃ (dv : V), σ' = [some (.ref a), some (.ref b), some (.ref t), some (.int (0 + (i : Int))), some (.ref o), some (.str (rtext xs')), some (.str z), some dv, y8, none] ∧ Same H3 H' ∧ DueV H' dv (lawR (w1 :: ws)), ?_, ?_⟩
      · refine ⟨.str z, rfl, ⟨z, rfl⟩, z, _, rfl, rfl, (by decide +kernel), Nat.le_trans (Nat.add_le_add_right hz3.1 2) (by decide), fun pp hpp => ?_⟩
        rw [hp]
        refine ⟨pp, w1 :: ws, rfl, SqL.of upd_same, pk, Nat.succ_pos _, lw, fun e H4 s4 => ⟨_, rfl, (Same.new hpp).trans s4, .inl ⟨e, rfl⟩⟩, fun ys e H4 p s4 _ ep => ⟨_, rfl, (Same.new hpp).trans s4, .inr ⟨p, ys, e, rfl, ep⟩⟩⟩
      rintro σ H4 ⟨dv, rfl, s4, D4⟩
      refine ⟨fun σ' H' => ∃ (bv : V), σ' = [some (.ref a), some (.ref b), some (.ref t), some (.int (0 + (i : Int))), some (.ref o), some (.str (rtext xs')), some (.str z), some dv, some bv, none] ∧ Same H4 H' ∧ DueV H' bv (lawR (w1 :: ws)), ?_, ?_⟩
      · refine ⟨.str z, rfl, .str z, b, 0, rfl, .str hz3, fun e H5 s5 => ⟨_, rfl, s5, .inl ⟨by rw [← rd]; exact e, rfl⟩⟩, fun ys e H5 p s5 _ ep => ⟨_, rfl, s5, .inr ⟨p, ys, by rw [← rd]; exact e, rfl, ep⟩⟩⟩
      rintro σ H5 ⟨bv, rfl, s5, D5⟩
      have s35 := s4.trans s5
      have D4' := D4.same s5
      -- back
      have e0 : (!decide (V.non = V.non)) = false := by decide
      have B5 := B3.same s35
      have T5 := T3.same s35
      have eo5 := s35 _ _ eo3
      have eqd : Eqd K H5 3 bv dv := by
        rcases D4' with ⟨en, rfl⟩ | ⟨pd, ys, es, rfl, ed⟩
        · rcases D5 with ⟨_, rfl⟩ | ⟨pb, ys', es', rfl, eb⟩
          · exact .flat rfl
          · rw [en] at es'; cases es'
        · rcases D5 with ⟨en, rfl⟩ | ⟨pb, ys', es', rfl, eb⟩
          · rw [en] at es; cases es
          · obtain rfl : ys' = ys := by rw [es] at es'; exact (Option.some.inj es').symm
            obtain ⟨_, lt2, lt3, _⟩ := law_text es pk
            exact row_eqd eb ed lt2 (by omega)
      refine ⟨bv, rfl, dv, rfl, bv, dv, rfl, eqd, fun G s6 => ⟨true, rfl, iteF ?_⟩⟩
      have s36 := s35.trans s6
      refine ⟨fun σ' H' => σ' = [some (.ref a), some (.ref b), some (.ref t), some (.int (0 + (i : Int))), some (.ref o), some (.str (rtext xs')), some (.str z), some dv, some bv, none] ∧ Same H3 H', ?_, ?_⟩
      · have D4g := D4'.same s6
        have D5g := D5.same s6
        rcases D4g with ⟨en, rfl⟩ | ⟨pd, ys, es, rfl, ed⟩
        · refine ⟨.non, rfl, _, rfl, ?_⟩
          show if (!decide (V.non = V.non)) = true then _ else _
          rw [e0]
          exact iteF (iteF ⟨rfl, s36⟩)
        · rcases D5g with ⟨en, _⟩ | ⟨pb, ys', es', rfl, eb⟩
          · rw [en] at es; cases es
          obtain rfl : ys' = ys := by rw [es] at es'; exact (Option.some.inj es').symm
          obtain ⟨lt1, lt2, lt3, lt4, lt5⟩ := law_text es pk
          have e1 : (!decide (V.ref pd = V.non)) = true := by simp
          refine ⟨.ref pd, rfl, _, rfl, ?_⟩
          show if (!decide (V.ref pd = V.non)) = true then _ else _
          rw [e1]
          refine iteT ⟨.ref pb, rfl, pb, ys', rfl, SqT.of eb, lt2, lt3, fun G1 g1 => ⟨.str z, rfl, rfl, _, rfl, ?_⟩⟩
          have e2 : (!decide (V.str (rtext ys') = V.str z)) = false := by rw [lt1, hj, decide_eq_true rfl]; rfl
          show if (!decide (V.str (rtext ys') = V.str z)) = true then _ else _
          rw [e2]
          have eb1 := g1 _ _ eb
          have tp : ∀ H' : Hp, H' pb = some (.tup ys') → Tp K H' 0 0 (.ref pb) (some ys') := fun H' e => ⟨pb, rfl, SqT.of e, by omega, lt5⟩
          refine iteF ⟨.ref pb, rfl, .ref pb, 0, 0, _, rfl, tp _ eb1, fun G2 g2 => ⟨_, rfl, ?_⟩⟩
          have s3g := (s36.trans g1).trans g2
          unfold rowOk at lt4
          cases hc : codeO (some ys') with
          | true => exact iteT (iteF ⟨rfl, s3g⟩)
          | false =>
            rw [hc, Bool.false_or] at lt4
            refine iteF ⟨.ref pb, rfl, .ref pb, 0, 0, _, rfl, tp _ (g2 _ _ eb1), fun G3 g3 => ⟨_, rfl, ?_⟩⟩
            rw [lt4]
            exact iteF ⟨rfl, s3g.trans g3⟩
      -- the odd ones
      clear s36 s6 eqd e0 D4 D5 D4' eo5 T5 B5 s35 s5 s4
      rintro σ H6 ⟨rfl, s6⟩
      have B6 := B3.same s6
      have T6 := T3.same s6
      have eo6 := s6 _ _ eo3
      refine ⟨.ref b, rfl, .ref o, rfl, .str (rtext xs'), rfl, (by show 1 ≤ sizeLine; decide), fun q1 h1 => ?_⟩
      have nq1 := B6.ne h1
      have s7 : Same H6 (upd H6 q1 (.lst [V.str (rtext xs')])) := Same.new h1
      have e7 : (upd H6 q1 (.lst [V.str (rtext xs')])) q1 = some (.lst [V.str (rtext xs')]) := upd_same
      generalize upd H6 q1 (.lst [V.str (rtext xs')]) = H7 at s7 e7 ⊢
      have B7 := B6.same s7
      refine ⟨.str (rtext xs'), rfl, (by show 1 ≤ sizeLine; decide), fun q2 h2 => ?_⟩
      have nq2 := B7.ne h2
      have s8 : Same H7 (upd H7 q2 (.tup [V.str (rtext xs')])) := Same.new h2
      have e8 : (upd H7 q2 (.tup [V.str (rtext xs')])) q2 = some (.tup [V.str (rtext xs')]) := upd_same
      generalize upd H7 q2 (.tup [V.str (rtext xs')]) = H8 at s8 e8 ⊢
      have B8 := B7.same s8
      refine ⟨(by show 4 ≤ sizeLine; decide), fun q3 h3 => ?_⟩
      have nq3 := B8.ne h3
      have s9 : Same H8 (upd H8 q3 (.lst [V.ref o, V.ref q1, V.ref q2, V.int 7])) := Same.new h3
      have e9 : (upd H8 q3 (.lst [V.ref o, V.ref q1, V.ref q2, V.int 7])) q3 = some (.lst [V.ref o, V.ref q1, V.ref q2, V.int 7]) := upd_same
      generalize upd H8 q3 (.lst [V.ref o, V.ref q1, V.ref q2, V.int 7]) = H9 at s9 e9 ⊢
      have B9 := B8.same s9
      have s79 := (s7.trans s8).trans s9
      refine ⟨b, l, q3, _, rfl, B9, e9, nq3, ?_, (by show 4 ≤ 1000; decide), fun H10 v s10 B10 okv rn => ?_⟩
      · refine memc ⟨.tup0 no (SqT.of (s79 _ _ eo6)) (by omega) ((hx.ok hz).1 2), rfl⟩ (memc ⟨.lst0 nq1 (SqL.of (s9 _ _ (s8 _ _ e7))) (by show 1 ≤ 100000; decide) (mem1 (.str rb4)), rfl⟩ (memc ⟨.tup0 nq2 (SqT.of (s9 _ _ e8)) (by show 1 ≤ 100000; decide) (mem1 (.str rb4)), rfl⟩ (mem1 ⟨.int, rfl⟩)))
      refine ⟨v, b, 3, rfl, okv, fun _ H11 s11 => ?_, fun ys e _ _ _ _ _ => by rw [rn] at e; cases e⟩
      refine ⟨_, rfl, ?_⟩
      show if (!decide (V.non = V.non)) = true then _ else _
      have e0 : (!decide (V.non = V.non)) = false := by decide
      rw [e0]
      exact iteF ⟨_, _, _, _, _, _, rfl, B10.same s11, ((T6.same s79).stp s10).same s11⟩
    · rintro σ H2 ⟨y3, y4, y5, y6, y7, y8, rfl, B2, T2⟩
      refine ⟨(by show 9 ≤ sizeLine; decide), fun p1 h1 => ?_⟩
      have s3 : Same H2 (upd H2 p1 (.lst [V.str "put r0 00", V.str "put r0 +1", V.str "put r0 65535", V.str "put r0 65536", V.str "put r0 -0", V.str "room 1", V.str "room 0", V.str "room 120", V.str "room 121"])) := Same.new h1
      have e3 : (upd H2 p1 (.lst [V.str "put r0 00", V.str "put r0 +1", V.str "put r0 65535", V.str "put r0 65536", V.str "put r0 -0", V.str "room 1", V.str "room 0", V.str "room 120", V.str "room 121"])) p1 = some (.lst [V.str "put r0 00", V.str "put r0 +1", V.str "put r0 65535", V.str "put r0 65536", V.str "put r0 -0", V.str "room 1", V.str "room 0", V.str "room 120", V.str "room 121"]) := upd_same
      generalize upd H2 p1 (.lst [V.str "put r0 00", V.str "put r0 +1", V.str "put r0 65535", V.str "put r0 65536", V.str "put r0 -0", V.str "room 1", V.str "room 0", V.str "room 120", V.str "room 121"]) = H3 at s3 e3 ⊢
      refine ⟨.ref p1, rfl, (by show 10 ≤ sizeLine; decide), fun p2 h2 => ?_⟩
      have s4 : Same H3 (upd H3 p2 (.lst [V.str "word 0", V.str "word 00", V.str "address a", V.str "address abcdefg", V.str "halt ", V.str " halt", V.str "halt\n", V.str "jump  a", V.str "jump r0", V.str "jump put"])) := Same.new h2
      have e4 : (upd H3 p2 (.lst [V.str "word 0", V.str "word 00", V.str "address a", V.str "address abcdefg", V.str "halt ", V.str " halt", V.str "halt\n", V.str "jump  a", V.str "jump r0", V.str "jump put"])) p2 = some (.lst [V.str "word 0", V.str "word 00", V.str "address a", V.str "address abcdefg", V.str "halt ", V.str " halt", V.str "halt\n", V.str "jump  a", V.str "jump r0", V.str "jump put"]) := upd_same
      generalize upd H3 p2 (.lst [V.str "word 0", V.str "word 00", V.str "address a", V.str "address abcdefg", V.str "halt ", V.str " halt", V.str "halt\n", V.str "jump  a", V.str "jump r0", V.str "jump put"]) = H4 at s4 e4 ⊢
      refine ⟨p1, p2, _, _, rfl, rfl, s4 _ _ e3, e4, (by show 19 ≤ sizeLine; decide), fun p3 h3 => ?_⟩
      have s5 : Same H4 (upd H4 p3 (.lst ([V.str "put r0 00", V.str "put r0 +1", V.str "put r0 65535", V.str "put r0 65536", V.str "put r0 -0", V.str "room 1", V.str "room 0", V.str "room 120", V.str "room 121"] ++ [V.str "word 0", V.str "word 00", V.str "address a", V.str "address abcdefg", V.str "halt ", V.str " halt", V.str "halt\n", V.str "jump  a", V.str "jump r0", V.str "jump put"]))) := Same.new h3
      have e5 : (upd H4 p3 (.lst ([V.str "put r0 00", V.str "put r0 +1", V.str "put r0 65535", V.str "put r0 65536", V.str "put r0 -0", V.str "room 1", V.str "room 0", V.str "room 120", V.str "room 121"] ++ [V.str "word 0", V.str "word 00", V.str "address a", V.str "address abcdefg", V.str "halt ", V.str " halt", V.str "halt\n", V.str "jump  a", V.str "jump r0", V.str "jump put"]))) p3 = some (.lst ([V.str "put r0 00", V.str "put r0 +1", V.str "put r0 65535", V.str "put r0 65536", V.str "put r0 -0", V.str "room 1", V.str "room 0", V.str "room 120", V.str "room 121"] ++ [V.str "word 0", V.str "word 00", V.str "address a", V.str "address abcdefg", V.str "halt ", V.str " halt", V.str "halt\n", V.str "jump  a", V.str "jump r0", V.str "jump put"])) := upd_same
      generalize upd H4 p3 (.lst ([V.str "put r0 00", V.str "put r0 +1", V.str "put r0 65535", V.str "put r0 65536", V.str "put r0 -0", V.str "room 1", V.str "room 0", V.str "room 120", V.str "room 121"] ++ [V.str "word 0", V.str "word 00", V.str "address a", V.str "address abcdefg", V.str "halt ", V.str " halt", V.str "halt\n", V.str "jump  a", V.str "jump r0", V.str "jump put"])) = H5 at s5 e5 ⊢
      refine ⟨.ref p3, rfl, (by show 9 ≤ sizeLine; decide), fun p4 h4 => ?_⟩
      have s6 : Same H5 (upd H5 p4 (.lst [V.str "load r0 r1 15", V.str "load r0 r1 16", V.str "load r0 r1", V.str "out r3", V.str "put r0 1_0", V.str "room 012", V.str "name r0 r0", V.str "Halt", V.str "near r0 a"])) := Same.new h4
      have e6 : (upd H5 p4 (.lst [V.str "load r0 r1 15", V.str "load r0 r1 16", V.str "load r0 r1", V.str "out r3", V.str "put r0 1_0", V.str "room 012", V.str "name r0 r0", V.str "Halt", V.str "near r0 a"])) p4 = some (.lst [V.str "load r0 r1 15", V.str "load r0 r1 16", V.str "load r0 r1", V.str "out r3", V.str "put r0 1_0", V.str "room 012", V.str "name r0 r0", V.str "Halt", V.str "near r0 a"]) := upd_same
      generalize upd H5 p4 (.lst [V.str "load r0 r1 15", V.str "load r0 r1 16", V.str "load r0 r1", V.str "out r3", V.str "put r0 1_0", V.str "room 012", V.str "name r0 r0", V.str "Halt", V.str "near r0 a"]) = H6 at s6 e6 ⊢
      refine ⟨p3, p4, _, _, rfl, rfl, s6 _ _ e5, e6, (by show 28 ≤ sizeLine; decide), fun p5 h5 => ?_⟩
      have e7 : (upd H6 p5 (.lst (([V.str "put r0 00", V.str "put r0 +1", V.str "put r0 65535", V.str "put r0 65536", V.str "put r0 -0", V.str "room 1", V.str "room 0", V.str "room 120", V.str "room 121"] ++ [V.str "word 0", V.str "word 00", V.str "address a", V.str "address abcdefg", V.str "halt ", V.str " halt", V.str "halt\n", V.str "jump  a", V.str "jump r0", V.str "jump put"]) ++ [V.str "load r0 r1 15", V.str "load r0 r1 16", V.str "load r0 r1", V.str "out r3", V.str "put r0 1_0", V.str "room 012", V.str "name r0 r0", V.str "Halt", V.str "near r0 a"]))) p5 = some (.lst ((litsR.map V.str))) := upd_same
      generalize upd H6 p5 (.lst (([V.str "put r0 00", V.str "put r0 +1", V.str "put r0 65535", V.str "put r0 65536", V.str "put r0 -0", V.str "room 1", V.str "room 0", V.str "room 120", V.str "room 121"] ++ [V.str "word 0", V.str "word 00", V.str "address a", V.str "address abcdefg", V.str "halt ", V.str " halt", V.str "halt\n", V.str "jump  a", V.str "jump r0", V.str "jump put"]) ++ [V.str "load r0 r1 15", V.str "load r0 r1 16", V.str "load r0 r1", V.str "out r3", V.str "put r0 1_0", V.str "room 012", V.str "name r0 r0", V.str "Halt", V.str "near r0 a"])) = H7 at e7 ⊢
      have all : ∀ z ∈ litsR, StrK z ∧ z.cps.size ≤ 100 := fun z m => by
        have q := List.all_eq_true.mp (show (litsR.all fun z => decide (z.cps.size ≤ 100) && z.cps.toList.all fun c => decide (c < 1114112)) = true by decide +kernel) z m
        simp only [Bool.and_eq_true, decide_eq_true_eq, List.all_eq_true] at q
        exact ⟨⟨Nat.le_trans q.1 (by decide), q.2⟩, q.1⟩
      refine ⟨.ref p5, rfl, p5, rfl, ⟨_, SqL.of e7⟩, for_it walk_list (fun j σ H' => ∃ (y5' : Option V), σ = [some (.ref a), some (.ref b), some (.ref t), y3, y4, y5', y6, y7, y8, some (.ref p5)] ∧ Same H7 H') ⟨_, rfl, Same.refl _⟩ (fun _ _ G _ ⟨_, _, sG⟩ => sG.seq (SqL.of e7)) ?_ ?_⟩
      · rintro j x σ G G' hj ⟨y5', rfl, sG⟩ ⟨rfl, hx⟩
        obtain ⟨z, mz, rfl⟩ := List.mem_map.mp (List.mem_of_getElem? hx)
        obtain ⟨hz1, hz2⟩ := all z mz
        obtain ⟨w1, ws, hp, hj'⟩ := parts_spec z
        obtain ⟨pk, pl⟩ := split_parts hp hz1
        have rd : rdV (.str z) = lawR (w1 :: ws) := by
          show readR (Txt.split z " ") = _
          rw [hp, read_law]
        cases er : lawR (w1 :: ws) with
        | none =>
          refine ⟨.str z, rfl, .str z, b, 0, rfl, .str hz1, fun _ G1 g1 => ?_, fun ys e _ _ _ _ _ => by rw [rd, er] at e; cases e⟩
          refine ⟨.str z, rfl, ⟨z, rfl⟩, z, _, rfl, rfl, (by decide +kernel), Nat.le_trans (Nat.add_le_add_right hz1.1 2) (by decide), fun pp hpp => ?_⟩
          rw [hp]
          refine ⟨pp, w1 :: ws, rfl, SqL.of upd_same, pk, Nat.succ_pos _, by omega, fun _ G2 g2 => ?_, fun ys e _ _ _ _ _ => by rw [er] at e; cases e⟩
          exact ⟨.non, .non, rfl, .flat rfl, fun G3 g3 => ⟨true, rfl, iteF ⟨_, rfl, ((sG.trans g1).trans ((Same.new hpp).trans g2)).trans g3⟩⟩⟩
        | some xs =>
          obtain ⟨_, lt2, lt3, _⟩ := law_text er pk
          refine ⟨.str z, rfl, .str z, b, 0, rfl, .str hz1, (fun e => by rw [rd, er] at e; cases e), fun ys e G1 pb g1 _ eb => ?_⟩
          obtain rfl : ys = xs := by rw [rd, er] at e; exact (Option.some.inj e).symm
          refine ⟨.str z, rfl, ⟨z, rfl⟩, z, _, rfl, rfl, (by decide +kernel), Nat.le_trans (Nat.add_le_add_right hz1.1 2) (by decide), fun pp hpp => ?_⟩
          rw [hp]
          refine ⟨pp, w1 :: ws, rfl, SqL.of upd_same, pk, Nat.succ_pos _, by omega, (fun e => by rw [er] at e; cases e), fun ys' e G2 pd g2 _ ed => ?_⟩
          obtain rfl : ys' = ys := by rw [er] at e; exact (Option.some.inj e).symm
          have g12 := (Same.new hpp (o := .lst ((w1 :: ws).map V.str))).trans g2
          exact ⟨.ref pb, .ref pd, rfl, row_eqd (g12 _ _ eb) ed lt2 (by omega), fun G3 g3 => ⟨true, rfl, iteF ⟨_, rfl, ((sG.trans g1).trans g12).trans g3⟩⟩⟩
      · rintro σ G ⟨y5', rfl, sG⟩
        exact k _
end

/-! ### what the top has written, the head -/
theorem all_mk {l : PySem.W.OpenLaw} {w : World} {K : PySem.W.Frag} {h : Heap} {mg : Str → Option Value} {fa : Addr} (X : K.In h) (G : h.Ns mainGlobals mg) (hfa : mg "law" = some (.ref fa))
    {f_is_name f_is_register f_is_number f_read_number f_is_code_row f_is_data_row f_row_text f_read_row f_word_of f_kinds_of f_fit f_fits f_read_item f_law_bag f_law_draw f_law_of f_law_mixed f_law_same f_law_odd f_law_titles f_law_number f_law_r f_law_code_row f_law_last_row f_law_data_row f_law_row_text f_law_is_title f_law_within f_law_code_so f_law_data_so f_law_figure f_law_row_of f_law_bent_text f_law  q_REGISTERS q_CODE_ROWS q_DATA_ROWS q_BOUNDS : Addr}
    {od_is_name an_is_name od_is_register an_is_register od_is_number an_is_number od_read_number an_read_number od_is_code_row an_is_code_row od_is_data_row an_is_data_row od_row_text an_row_text od_read_row an_read_row od_word_of an_word_of od_kinds_of an_kinds_of od_fit an_fit od_fits an_fits od_read_item an_read_item od_law_bag an_law_bag od_law_draw an_law_draw od_law_of an_law_of od_law_mixed an_law_mixed od_law_same an_law_same od_law_odd an_law_odd od_law_titles an_law_titles od_law_number an_law_number od_law_r an_law_r od_law_code_row an_law_code_row od_law_last_row an_law_last_row od_law_data_row an_law_data_row od_law_row_text an_law_row_text od_law_is_title an_law_is_title od_law_within an_law_within od_law_code_so an_law_code_so od_law_data_so an_law_data_so od_law_figure an_law_figure od_law_row_of an_law_row_of od_law_bent_text an_law_bent_text od_law an_law : Option Addr} {sl_is_name sl_is_register sl_is_number sl_read_number sl_is_code_row sl_is_data_row sl_row_text sl_read_row sl_word_of sl_kinds_of sl_fit sl_fits sl_read_item sl_law_bag sl_law_draw sl_law_of sl_law_mixed sl_law_same sl_law_odd sl_law_titles sl_law_number sl_law_r sl_law_code_row sl_law_last_row sl_law_data_row sl_law_row_text sl_law_is_title sl_law_within sl_law_code_so sl_law_data_so sl_law_figure sl_law_row_of sl_law_bent_text sl_law : Array (Option Value)} {oc_is_name kV_is_name dc_is_name pm_is_name cd_is_name ct_is_name oc_is_register kV_is_register dc_is_register pm_is_register cd_is_register ct_is_register oc_is_number kV_is_number dc_is_number pm_is_number cd_is_number ct_is_number oc_read_number kV_read_number dc_read_number pm_read_number cd_read_number ct_read_number oc_is_code_row kV_is_code_row dc_is_code_row pm_is_code_row cd_is_code_row ct_is_code_row oc_is_data_row kV_is_data_row dc_is_data_row pm_is_data_row cd_is_data_row ct_is_data_row oc_row_text kV_row_text dc_row_text pm_row_text cd_row_text ct_row_text oc_read_row kV_read_row dc_read_row pm_read_row cd_read_row ct_read_row oc_word_of kV_word_of dc_word_of pm_word_of cd_word_of ct_word_of oc_kinds_of kV_kinds_of dc_kinds_of pm_kinds_of cd_kinds_of ct_kinds_of oc_fit kV_fit dc_fit pm_fit cd_fit ct_fit oc_fits kV_fits dc_fits pm_fits cd_fits ct_fits oc_read_item kV_read_item dc_read_item pm_read_item cd_read_item ct_read_item oc_law_bag kV_law_bag dc_law_bag pm_law_bag cd_law_bag ct_law_bag oc_law_draw kV_law_draw dc_law_draw pm_law_draw cd_law_draw ct_law_draw oc_law_of kV_law_of dc_law_of pm_law_of cd_law_of ct_law_of oc_law_mixed kV_law_mixed dc_law_mixed pm_law_mixed cd_law_mixed ct_law_mixed oc_law_same kV_law_same dc_law_same pm_law_same cd_law_same ct_law_same oc_law_odd kV_law_odd dc_law_odd pm_law_odd cd_law_odd ct_law_odd oc_law_titles kV_law_titles dc_law_titles pm_law_titles cd_law_titles ct_law_titles oc_law_number kV_law_number dc_law_number pm_law_number cd_law_number ct_law_number oc_law_r kV_law_r dc_law_r pm_law_r cd_law_r ct_law_r oc_law_code_row kV_law_code_row dc_law_code_row pm_law_code_row cd_law_code_row ct_law_code_row oc_law_last_row kV_law_last_row dc_law_last_row pm_law_last_row cd_law_last_row ct_law_last_row oc_law_data_row kV_law_data_row dc_law_data_row pm_law_data_row cd_law_data_row ct_law_data_row oc_law_row_text kV_law_row_text dc_law_row_text pm_law_row_text cd_law_row_text ct_law_row_text oc_law_is_title kV_law_is_title dc_law_is_title pm_law_is_title cd_law_is_title ct_law_is_title oc_law_within kV_law_within dc_law_within pm_law_within cd_law_within ct_law_within oc_law_code_so kV_law_code_so dc_law_code_so pm_law_code_so cd_law_code_so ct_law_code_so oc_law_data_so kV_law_data_so dc_law_data_so pm_law_data_so cd_law_data_so ct_law_data_so oc_law_figure kV_law_figure dc_law_figure pm_law_figure cd_law_figure ct_law_figure oc_law_row_of kV_law_row_of dc_law_row_of pm_law_row_of cd_law_row_of ct_law_row_of oc_law_bent_text kV_law_bent_text dc_law_bent_text pm_law_bent_text cd_law_bent_text ct_law_bent_text oc_law kV_law dc_law pm_law cd_law ct_law : Value}
    (a_is_name : PySem.W.nsIn K mainGlobals "is_name" = some (some (.ref f_is_name))) (l_is_name : K.lookup f_is_name = some ⟨oc_is_name, od_is_name, .func (PySem.W.fnOf "is_name" "is_name" (defArgs s_is_name) (defBody s_is_name) (defScope s_is_name) .none kV_is_name dc_is_name pm_is_name an_is_name cd_is_name ct_is_name), sl_is_name⟩) (c_is_name : PySem.W.codeIn K cd_is_name "is_name" = true) (k_is_name : PySem.W.keepIn K (.ref f_is_name) = true)
    (a_is_register : PySem.W.nsIn K mainGlobals "is_register" = some (some (.ref f_is_register))) (l_is_register : K.lookup f_is_register = some ⟨oc_is_register, od_is_register, .func (PySem.W.fnOf "is_register" "is_register" (defArgs s_is_register) (defBody s_is_register) (defScope s_is_register) .none kV_is_register dc_is_register pm_is_register an_is_register cd_is_register ct_is_register), sl_is_register⟩) (c_is_register : PySem.W.codeIn K cd_is_register "is_register" = true) (k_is_register : PySem.W.keepIn K (.ref f_is_register) = true)
    (a_is_number : PySem.W.nsIn K mainGlobals "is_number" = some (some (.ref f_is_number))) (l_is_number : K.lookup f_is_number = some ⟨oc_is_number, od_is_number, .func (PySem.W.fnOf "is_number" "is_number" (defArgs s_is_number) (defBody s_is_number) (defScope s_is_number) .none kV_is_number dc_is_number pm_is_number an_is_number cd_is_number ct_is_number), sl_is_number⟩) (c_is_number : PySem.W.codeIn K cd_is_number "is_number" = true) (k_is_number : PySem.W.keepIn K (.ref f_is_number) = true)
    (a_read_number : PySem.W.nsIn K mainGlobals "read_number" = some (some (.ref f_read_number))) (l_read_number : K.lookup f_read_number = some ⟨oc_read_number, od_read_number, .func (PySem.W.fnOf "read_number" "read_number" (defArgs s_read_number) (defBody s_read_number) (defScope s_read_number) .none kV_read_number dc_read_number pm_read_number an_read_number cd_read_number ct_read_number), sl_read_number⟩) (c_read_number : PySem.W.codeIn K cd_read_number "read_number" = true) (k_read_number : PySem.W.keepIn K (.ref f_read_number) = true)
    (a_is_code_row : PySem.W.nsIn K mainGlobals "is_code_row" = some (some (.ref f_is_code_row))) (l_is_code_row : K.lookup f_is_code_row = some ⟨oc_is_code_row, od_is_code_row, .func (PySem.W.fnOf "is_code_row" "is_code_row" (defArgs s_is_code_row) (defBody s_is_code_row) (defScope s_is_code_row) .none kV_is_code_row dc_is_code_row pm_is_code_row an_is_code_row cd_is_code_row ct_is_code_row), sl_is_code_row⟩) (c_is_code_row : PySem.W.codeIn K cd_is_code_row "is_code_row" = true) (k_is_code_row : PySem.W.keepIn K (.ref f_is_code_row) = true)
    (a_is_data_row : PySem.W.nsIn K mainGlobals "is_data_row" = some (some (.ref f_is_data_row))) (l_is_data_row : K.lookup f_is_data_row = some ⟨oc_is_data_row, od_is_data_row, .func (PySem.W.fnOf "is_data_row" "is_data_row" (defArgs s_is_data_row) (defBody s_is_data_row) (defScope s_is_data_row) .none kV_is_data_row dc_is_data_row pm_is_data_row an_is_data_row cd_is_data_row ct_is_data_row), sl_is_data_row⟩) (c_is_data_row : PySem.W.codeIn K cd_is_data_row "is_data_row" = true) (k_is_data_row : PySem.W.keepIn K (.ref f_is_data_row) = true)
    (a_row_text : PySem.W.nsIn K mainGlobals "row_text" = some (some (.ref f_row_text))) (l_row_text : K.lookup f_row_text = some ⟨oc_row_text, od_row_text, .func (PySem.W.fnOf "row_text" "row_text" (defArgs s_row_text) (defBody s_row_text) (defScope s_row_text) .none kV_row_text dc_row_text pm_row_text an_row_text cd_row_text ct_row_text), sl_row_text⟩) (c_row_text : PySem.W.codeIn K cd_row_text "row_text" = true) (k_row_text : PySem.W.keepIn K (.ref f_row_text) = true)
    (a_read_row : PySem.W.nsIn K mainGlobals "read_row" = some (some (.ref f_read_row))) (l_read_row : K.lookup f_read_row = some ⟨oc_read_row, od_read_row, .func (PySem.W.fnOf "read_row" "read_row" (defArgs s_read_row) (defBody s_read_row) (defScope s_read_row) .none kV_read_row dc_read_row pm_read_row an_read_row cd_read_row ct_read_row), sl_read_row⟩) (c_read_row : PySem.W.codeIn K cd_read_row "read_row" = true) (k_read_row : PySem.W.keepIn K (.ref f_read_row) = true)
    (a_word_of : PySem.W.nsIn K mainGlobals "_word_of" = some (some (.ref f_word_of))) (l_word_of : K.lookup f_word_of = some ⟨oc_word_of, od_word_of, .func (PySem.W.fnOf "_word_of" "_word_of" (defArgs s_word_of) (defBody s_word_of) (defScope s_word_of) .none kV_word_of dc_word_of pm_word_of an_word_of cd_word_of ct_word_of), sl_word_of⟩) (c_word_of : PySem.W.codeIn K cd_word_of "_word_of" = true) (k_word_of : PySem.W.keepIn K (.ref f_word_of) = true)
    (a_kinds_of : PySem.W.nsIn K mainGlobals "_kinds_of" = some (some (.ref f_kinds_of))) (l_kinds_of : K.lookup f_kinds_of = some ⟨oc_kinds_of, od_kinds_of, .func (PySem.W.fnOf "_kinds_of" "_kinds_of" (defArgs s_kinds_of) (defBody s_kinds_of) (defScope s_kinds_of) .none kV_kinds_of dc_kinds_of pm_kinds_of an_kinds_of cd_kinds_of ct_kinds_of), sl_kinds_of⟩) (c_kinds_of : PySem.W.codeIn K cd_kinds_of "_kinds_of" = true) (k_kinds_of : PySem.W.keepIn K (.ref f_kinds_of) = true)
    (a_fit : PySem.W.nsIn K mainGlobals "_fit" = some (some (.ref f_fit))) (l_fit : K.lookup f_fit = some ⟨oc_fit, od_fit, .func (PySem.W.fnOf "_fit" "_fit" (defArgs s_fit) (defBody s_fit) (defScope s_fit) .none kV_fit dc_fit pm_fit an_fit cd_fit ct_fit), sl_fit⟩) (c_fit : PySem.W.codeIn K cd_fit "_fit" = true) (k_fit : PySem.W.keepIn K (.ref f_fit) = true)
    (a_fits : PySem.W.nsIn K mainGlobals "_fits" = some (some (.ref f_fits))) (l_fits : K.lookup f_fits = some ⟨oc_fits, od_fits, .func (PySem.W.fnOf "_fits" "_fits" (defArgs s_fits) (defBody s_fits) (defScope s_fits) .none kV_fits dc_fits pm_fits an_fits cd_fits ct_fits), sl_fits⟩) (c_fits : PySem.W.codeIn K cd_fits "_fits" = true) (k_fits : PySem.W.keepIn K (.ref f_fits) = true)
    (a_read_item : PySem.W.nsIn K mainGlobals "_read_item" = some (some (.ref f_read_item))) (l_read_item : K.lookup f_read_item = some ⟨oc_read_item, od_read_item, .func (PySem.W.fnOf "_read_item" "_read_item" (defArgs s_read_item) (defBody s_read_item) (defScope s_read_item) .none kV_read_item dc_read_item pm_read_item an_read_item cd_read_item ct_read_item), sl_read_item⟩) (c_read_item : PySem.W.codeIn K cd_read_item "_read_item" = true) (k_read_item : PySem.W.keepIn K (.ref f_read_item) = true)
    (a_law_bag : PySem.W.nsIn K mainGlobals "_law_bag" = some (some (.ref f_law_bag))) (l_law_bag : K.lookup f_law_bag = some ⟨oc_law_bag, od_law_bag, .func (PySem.W.fnOf "_law_bag" "_law_bag" (defArgs s_law_bag) (defBody s_law_bag) (defScope s_law_bag) .none kV_law_bag dc_law_bag pm_law_bag an_law_bag cd_law_bag ct_law_bag), sl_law_bag⟩) (c_law_bag : PySem.W.codeIn K cd_law_bag "_law_bag" = true) (k_law_bag : PySem.W.keepIn K (.ref f_law_bag) = true)
    (a_law_draw : PySem.W.nsIn K mainGlobals "_law_draw" = some (some (.ref f_law_draw))) (l_law_draw : K.lookup f_law_draw = some ⟨oc_law_draw, od_law_draw, .func (PySem.W.fnOf "_law_draw" "_law_draw" (defArgs s_law_draw) (defBody s_law_draw) (defScope s_law_draw) .none kV_law_draw dc_law_draw pm_law_draw an_law_draw cd_law_draw ct_law_draw), sl_law_draw⟩) (c_law_draw : PySem.W.codeIn K cd_law_draw "_law_draw" = true) (k_law_draw : PySem.W.keepIn K (.ref f_law_draw) = true)
    (a_law_of : PySem.W.nsIn K mainGlobals "_law_of" = some (some (.ref f_law_of))) (l_law_of : K.lookup f_law_of = some ⟨oc_law_of, od_law_of, .func (PySem.W.fnOf "_law_of" "_law_of" (defArgs s_law_of) (defBody s_law_of) (defScope s_law_of) .none kV_law_of dc_law_of pm_law_of an_law_of cd_law_of ct_law_of), sl_law_of⟩) (c_law_of : PySem.W.codeIn K cd_law_of "_law_of" = true) (k_law_of : PySem.W.keepIn K (.ref f_law_of) = true)
    (a_law_mixed : PySem.W.nsIn K mainGlobals "_law_mixed" = some (some (.ref f_law_mixed))) (l_law_mixed : K.lookup f_law_mixed = some ⟨oc_law_mixed, od_law_mixed, .func (PySem.W.fnOf "_law_mixed" "_law_mixed" (defArgs s_law_mixed) (defBody s_law_mixed) (defScope s_law_mixed) .none kV_law_mixed dc_law_mixed pm_law_mixed an_law_mixed cd_law_mixed ct_law_mixed), sl_law_mixed⟩) (c_law_mixed : PySem.W.codeIn K cd_law_mixed "_law_mixed" = true) (k_law_mixed : PySem.W.keepIn K (.ref f_law_mixed) = true)
    (a_law_same : PySem.W.nsIn K mainGlobals "_law_same" = some (some (.ref f_law_same))) (l_law_same : K.lookup f_law_same = some ⟨oc_law_same, od_law_same, .func (PySem.W.fnOf "_law_same" "_law_same" (defArgs s_law_same) (defBody s_law_same) (defScope s_law_same) .none kV_law_same dc_law_same pm_law_same an_law_same cd_law_same ct_law_same), sl_law_same⟩) (c_law_same : PySem.W.codeIn K cd_law_same "_law_same" = true) (k_law_same : PySem.W.keepIn K (.ref f_law_same) = true)
    (a_law_odd : PySem.W.nsIn K mainGlobals "_law_odd" = some (some (.ref f_law_odd))) (l_law_odd : K.lookup f_law_odd = some ⟨oc_law_odd, od_law_odd, .func (PySem.W.fnOf "_law_odd" "_law_odd" (defArgs s_law_odd) (defBody s_law_odd) (defScope s_law_odd) .none kV_law_odd dc_law_odd pm_law_odd an_law_odd cd_law_odd ct_law_odd), sl_law_odd⟩) (c_law_odd : PySem.W.codeIn K cd_law_odd "_law_odd" = true) (k_law_odd : PySem.W.keepIn K (.ref f_law_odd) = true)
    (a_law_titles : PySem.W.nsIn K mainGlobals "_law_titles" = some (some (.ref f_law_titles))) (l_law_titles : K.lookup f_law_titles = some ⟨oc_law_titles, od_law_titles, .func (PySem.W.fnOf "_law_titles" "_law_titles" (defArgs s_law_titles) (defBody s_law_titles) (defScope s_law_titles) .none kV_law_titles dc_law_titles pm_law_titles an_law_titles cd_law_titles ct_law_titles), sl_law_titles⟩) (c_law_titles : PySem.W.codeIn K cd_law_titles "_law_titles" = true) (k_law_titles : PySem.W.keepIn K (.ref f_law_titles) = true)
    (a_law_number : PySem.W.nsIn K mainGlobals "_law_number" = some (some (.ref f_law_number))) (l_law_number : K.lookup f_law_number = some ⟨oc_law_number, od_law_number, .func (PySem.W.fnOf "_law_number" "_law_number" (defArgs s_law_number) (defBody s_law_number) (defScope s_law_number) .none kV_law_number dc_law_number pm_law_number an_law_number cd_law_number ct_law_number), sl_law_number⟩) (c_law_number : PySem.W.codeIn K cd_law_number "_law_number" = true) (k_law_number : PySem.W.keepIn K (.ref f_law_number) = true)
    (a_law_r : PySem.W.nsIn K mainGlobals "_law_r" = some (some (.ref f_law_r))) (l_law_r : K.lookup f_law_r = some ⟨oc_law_r, od_law_r, .func (PySem.W.fnOf "_law_r" "_law_r" (defArgs s_law_r) (defBody s_law_r) (defScope s_law_r) .none kV_law_r dc_law_r pm_law_r an_law_r cd_law_r ct_law_r), sl_law_r⟩) (c_law_r : PySem.W.codeIn K cd_law_r "_law_r" = true) (k_law_r : PySem.W.keepIn K (.ref f_law_r) = true)
    (a_law_code_row : PySem.W.nsIn K mainGlobals "_law_code_row" = some (some (.ref f_law_code_row))) (l_law_code_row : K.lookup f_law_code_row = some ⟨oc_law_code_row, od_law_code_row, .func (PySem.W.fnOf "_law_code_row" "_law_code_row" (defArgs s_law_code_row) (defBody s_law_code_row) (defScope s_law_code_row) .none kV_law_code_row dc_law_code_row pm_law_code_row an_law_code_row cd_law_code_row ct_law_code_row), sl_law_code_row⟩) (c_law_code_row : PySem.W.codeIn K cd_law_code_row "_law_code_row" = true) (k_law_code_row : PySem.W.keepIn K (.ref f_law_code_row) = true)
    (a_law_last_row : PySem.W.nsIn K mainGlobals "_law_last_row" = some (some (.ref f_law_last_row))) (l_law_last_row : K.lookup f_law_last_row = some ⟨oc_law_last_row, od_law_last_row, .func (PySem.W.fnOf "_law_last_row" "_law_last_row" (defArgs s_law_last_row) (defBody s_law_last_row) (defScope s_law_last_row) .none kV_law_last_row dc_law_last_row pm_law_last_row an_law_last_row cd_law_last_row ct_law_last_row), sl_law_last_row⟩) (c_law_last_row : PySem.W.codeIn K cd_law_last_row "_law_last_row" = true) (k_law_last_row : PySem.W.keepIn K (.ref f_law_last_row) = true)
    (a_law_data_row : PySem.W.nsIn K mainGlobals "_law_data_row" = some (some (.ref f_law_data_row))) (l_law_data_row : K.lookup f_law_data_row = some ⟨oc_law_data_row, od_law_data_row, .func (PySem.W.fnOf "_law_data_row" "_law_data_row" (defArgs s_law_data_row) (defBody s_law_data_row) (defScope s_law_data_row) .none kV_law_data_row dc_law_data_row pm_law_data_row an_law_data_row cd_law_data_row ct_law_data_row), sl_law_data_row⟩) (c_law_data_row : PySem.W.codeIn K cd_law_data_row "_law_data_row" = true) (k_law_data_row : PySem.W.keepIn K (.ref f_law_data_row) = true)
    (a_law_row_text : PySem.W.nsIn K mainGlobals "_law_row_text" = some (some (.ref f_law_row_text))) (l_law_row_text : K.lookup f_law_row_text = some ⟨oc_law_row_text, od_law_row_text, .func (PySem.W.fnOf "_law_row_text" "_law_row_text" (defArgs s_law_row_text) (defBody s_law_row_text) (defScope s_law_row_text) .none kV_law_row_text dc_law_row_text pm_law_row_text an_law_row_text cd_law_row_text ct_law_row_text), sl_law_row_text⟩) (c_law_row_text : PySem.W.codeIn K cd_law_row_text "_law_row_text" = true) (k_law_row_text : PySem.W.keepIn K (.ref f_law_row_text) = true)
    (a_law_is_title : PySem.W.nsIn K mainGlobals "_law_is_title" = some (some (.ref f_law_is_title))) (l_law_is_title : K.lookup f_law_is_title = some ⟨oc_law_is_title, od_law_is_title, .func (PySem.W.fnOf "_law_is_title" "_law_is_title" (defArgs s_law_is_title) (defBody s_law_is_title) (defScope s_law_is_title) .none kV_law_is_title dc_law_is_title pm_law_is_title an_law_is_title cd_law_is_title ct_law_is_title), sl_law_is_title⟩) (c_law_is_title : PySem.W.codeIn K cd_law_is_title "_law_is_title" = true) (k_law_is_title : PySem.W.keepIn K (.ref f_law_is_title) = true)
    (a_law_within : PySem.W.nsIn K mainGlobals "_law_within" = some (some (.ref f_law_within))) (l_law_within : K.lookup f_law_within = some ⟨oc_law_within, od_law_within, .func (PySem.W.fnOf "_law_within" "_law_within" (defArgs s_law_within) (defBody s_law_within) (defScope s_law_within) .none kV_law_within dc_law_within pm_law_within an_law_within cd_law_within ct_law_within), sl_law_within⟩) (c_law_within : PySem.W.codeIn K cd_law_within "_law_within" = true) (k_law_within : PySem.W.keepIn K (.ref f_law_within) = true)
    (a_law_code_so : PySem.W.nsIn K mainGlobals "_law_code_so" = some (some (.ref f_law_code_so))) (l_law_code_so : K.lookup f_law_code_so = some ⟨oc_law_code_so, od_law_code_so, .func (PySem.W.fnOf "_law_code_so" "_law_code_so" (defArgs s_law_code_so) (defBody s_law_code_so) (defScope s_law_code_so) .none kV_law_code_so dc_law_code_so pm_law_code_so an_law_code_so cd_law_code_so ct_law_code_so), sl_law_code_so⟩) (c_law_code_so : PySem.W.codeIn K cd_law_code_so "_law_code_so" = true) (k_law_code_so : PySem.W.keepIn K (.ref f_law_code_so) = true)
    (a_law_data_so : PySem.W.nsIn K mainGlobals "_law_data_so" = some (some (.ref f_law_data_so))) (l_law_data_so : K.lookup f_law_data_so = some ⟨oc_law_data_so, od_law_data_so, .func (PySem.W.fnOf "_law_data_so" "_law_data_so" (defArgs s_law_data_so) (defBody s_law_data_so) (defScope s_law_data_so) .none kV_law_data_so dc_law_data_so pm_law_data_so an_law_data_so cd_law_data_so ct_law_data_so), sl_law_data_so⟩) (c_law_data_so : PySem.W.codeIn K cd_law_data_so "_law_data_so" = true) (k_law_data_so : PySem.W.keepIn K (.ref f_law_data_so) = true)
    (a_law_figure : PySem.W.nsIn K mainGlobals "_law_figure" = some (some (.ref f_law_figure))) (l_law_figure : K.lookup f_law_figure = some ⟨oc_law_figure, od_law_figure, .func (PySem.W.fnOf "_law_figure" "_law_figure" (defArgs s_law_figure) (defBody s_law_figure) (defScope s_law_figure) .none kV_law_figure dc_law_figure pm_law_figure an_law_figure cd_law_figure ct_law_figure), sl_law_figure⟩) (c_law_figure : PySem.W.codeIn K cd_law_figure "_law_figure" = true) (k_law_figure : PySem.W.keepIn K (.ref f_law_figure) = true)
    (a_law_row_of : PySem.W.nsIn K mainGlobals "_law_row_of" = some (some (.ref f_law_row_of))) (l_law_row_of : K.lookup f_law_row_of = some ⟨oc_law_row_of, od_law_row_of, .func (PySem.W.fnOf "_law_row_of" "_law_row_of" (defArgs s_law_row_of) (defBody s_law_row_of) (defScope s_law_row_of) .none kV_law_row_of dc_law_row_of pm_law_row_of an_law_row_of cd_law_row_of ct_law_row_of), sl_law_row_of⟩) (c_law_row_of : PySem.W.codeIn K cd_law_row_of "_law_row_of" = true) (k_law_row_of : PySem.W.keepIn K (.ref f_law_row_of) = true)
    (a_law_bent_text : PySem.W.nsIn K mainGlobals "_law_bent_text" = some (some (.ref f_law_bent_text))) (l_law_bent_text : K.lookup f_law_bent_text = some ⟨oc_law_bent_text, od_law_bent_text, .func (PySem.W.fnOf "_law_bent_text" "_law_bent_text" (defArgs s_law_bent_text) (defBody s_law_bent_text) (defScope s_law_bent_text) .none kV_law_bent_text dc_law_bent_text pm_law_bent_text an_law_bent_text cd_law_bent_text ct_law_bent_text), sl_law_bent_text⟩) (c_law_bent_text : PySem.W.codeIn K cd_law_bent_text "_law_bent_text" = true) (k_law_bent_text : PySem.W.keepIn K (.ref f_law_bent_text) = true)
    (a_law : PySem.W.nsIn K mainGlobals "law" = some (some (.ref f_law))) (l_law : K.lookup f_law = some ⟨oc_law, od_law, .func (PySem.W.fnOf "law" "law" (defArgs s_law) (defBody s_law) (defScope s_law) .none kV_law dc_law pm_law an_law cd_law ct_law), sl_law⟩) (c_law : PySem.W.codeIn K cd_law "law" = true) (k_law : PySem.W.keepIn K (.ref f_law) = true)
    (n_abs : PySem.W.nsIn K mainGlobals "abs" = some none)
    (n_all : PySem.W.nsIn K mainGlobals "all" = some none)
    (n_bool : PySem.W.nsIn K mainGlobals "bool" = some none)
    (n_int : PySem.W.nsIn K mainGlobals "int" = some none)
    (n_isinstance : PySem.W.nsIn K mainGlobals "isinstance" = some none)
    (n_len : PySem.W.nsIn K mainGlobals "len" = some none)
    (n_list : PySem.W.nsIn K mainGlobals "list" = some none)
    (n_range : PySem.W.nsIn K mainGlobals "range" = some none)
    (n_str : PySem.W.nsIn K mainGlobals "str" = some none)
    (n_tuple : PySem.W.nsIn K mainGlobals "tuple" = some none)
    (n_zip : PySem.W.nsIn K mainGlobals "zip" = some none)
    {tk_MOST_LETTERS : Tok} (g_MOST_LETTERS : PySem.W.nsIn K mainGlobals "MOST_LETTERS" = some (some (.int 6 tk_MOST_LETTERS)))
    {tk_MOST_DIGITS : Tok} (g_MOST_DIGITS : PySem.W.nsIn K mainGlobals "MOST_DIGITS" = some (some (.int 5 tk_MOST_DIGITS)))
    (g_REGISTERS : PySem.W.nsIn K mainGlobals "REGISTERS" = some (some (.ref q_REGISTERS)))
    {qi_REGISTERS : Array Value} {qn_REGISTERS : Nat} {qs_REGISTERS : Array (Option Value)} (v_REGISTERS : K.lookup q_REGISTERS = some ⟨.type "tuple", none, .seq qi_REGISTERS qn_REGISTERS, qs_REGISTERS⟩) (w_REGISTERS : Vals [.str "r0", .str "r1", .str "r2"] qi_REGISTERS.toList)
    (g_CODE_ROWS : PySem.W.nsIn K mainGlobals "CODE_ROWS" = some (some (.ref q_CODE_ROWS)))
    (g_DATA_ROWS : PySem.W.nsIn K mainGlobals "DATA_ROWS" = some (some (.ref q_DATA_ROWS)))
    (g_BOUNDS : PySem.W.nsIn K mainGlobals "BOUNDS" = some (some (.ref q_BOUNDS)))
    {qe_CODE_ROWS : Array DictEntry} {qz_CODE_ROWS : Nat} (dl_CODE_ROWS : K.lookup q_CODE_ROWS = some ⟨.type "dict", none, .dict qe_CODE_ROWS qz_CODE_ROWS, #[]⟩) (dk_CODE_ROWS : PySem.W.KeysLit w.params qe_CODE_ROWS.toList) (dw_CODE_ROWS : (q_CODE_ROWS == sysModules) = false)
    {t_CODE_ROWS_put : Addr}
    {t_CODE_ROWS_name : Addr}
    {t_CODE_ROWS_add : Addr}
    {t_CODE_ROWS_take : Addr}
    {t_CODE_ROWS_load : Addr}
    {t_CODE_ROWS_store : Addr}
    {t_CODE_ROWS_jump : Addr}
    {t_CODE_ROWS_ifzero : Addr}
    {t_CODE_ROWS_call : Addr}
    {t_CODE_ROWS_callby : Addr}
    {t_CODE_ROWS_back : Addr}
    {t_CODE_ROWS_out : Addr}
    {t_CODE_ROWS_halt : Addr}
    {t_CODE_ROWS_room : Addr}
    (pe_CODE_ROWS : Paired (fun (d : DictEntry) (p : Str × Value) => (∃ t, d.key = .str p.1 t) ∧ d.val = p.2) qe_CODE_ROWS.toList [("put", Value.ref t_CODE_ROWS_put), ("name", Value.ref t_CODE_ROWS_name), ("add", Value.ref t_CODE_ROWS_add), ("take", Value.ref t_CODE_ROWS_take), ("load", Value.ref t_CODE_ROWS_load), ("store", Value.ref t_CODE_ROWS_store), ("jump", Value.ref t_CODE_ROWS_jump), ("ifzero", Value.ref t_CODE_ROWS_ifzero), ("call", Value.ref t_CODE_ROWS_call), ("callby", Value.ref t_CODE_ROWS_callby), ("back", Value.ref t_CODE_ROWS_back), ("out", Value.ref t_CODE_ROWS_out), ("halt", Value.ref t_CODE_ROWS_halt), ("room", Value.ref t_CODE_ROWS_room)])
    {yd_CODE_ROWS_put : Option Addr} {yi_CODE_ROWS_put : Array Value} {yn_CODE_ROWS_put : Nat} {ys_CODE_ROWS_put : Array (Option Value)} (y_CODE_ROWS_put : K.lookup t_CODE_ROWS_put = some ⟨.type "tuple", yd_CODE_ROWS_put, .seq yi_CODE_ROWS_put yn_CODE_ROWS_put, ys_CODE_ROWS_put⟩) (u_CODE_ROWS_put : Vals [.str "R", .str "n"] yi_CODE_ROWS_put.toList)
    {yd_CODE_ROWS_name : Option Addr} {yi_CODE_ROWS_name : Array Value} {yn_CODE_ROWS_name : Nat} {ys_CODE_ROWS_name : Array (Option Value)} (y_CODE_ROWS_name : K.lookup t_CODE_ROWS_name = some ⟨.type "tuple", yd_CODE_ROWS_name, .seq yi_CODE_ROWS_name yn_CODE_ROWS_name, ys_CODE_ROWS_name⟩) (u_CODE_ROWS_name : Vals [.str "R", .str "N"] yi_CODE_ROWS_name.toList)
    {yd_CODE_ROWS_add : Option Addr} {yi_CODE_ROWS_add : Array Value} {yn_CODE_ROWS_add : Nat} {ys_CODE_ROWS_add : Array (Option Value)} (y_CODE_ROWS_add : K.lookup t_CODE_ROWS_add = some ⟨.type "tuple", yd_CODE_ROWS_add, .seq yi_CODE_ROWS_add yn_CODE_ROWS_add, ys_CODE_ROWS_add⟩) (u_CODE_ROWS_add : Vals [.str "R", .str "R"] yi_CODE_ROWS_add.toList)
    {yd_CODE_ROWS_take : Option Addr} {yi_CODE_ROWS_take : Array Value} {yn_CODE_ROWS_take : Nat} {ys_CODE_ROWS_take : Array (Option Value)} (y_CODE_ROWS_take : K.lookup t_CODE_ROWS_take = some ⟨.type "tuple", yd_CODE_ROWS_take, .seq yi_CODE_ROWS_take yn_CODE_ROWS_take, ys_CODE_ROWS_take⟩) (u_CODE_ROWS_take : Vals [.str "R", .str "R"] yi_CODE_ROWS_take.toList)
    {yd_CODE_ROWS_load : Option Addr} {yi_CODE_ROWS_load : Array Value} {yn_CODE_ROWS_load : Nat} {ys_CODE_ROWS_load : Array (Option Value)} (y_CODE_ROWS_load : K.lookup t_CODE_ROWS_load = some ⟨.type "tuple", yd_CODE_ROWS_load, .seq yi_CODE_ROWS_load yn_CODE_ROWS_load, ys_CODE_ROWS_load⟩) (u_CODE_ROWS_load : Vals [.str "R", .str "R", .str "d"] yi_CODE_ROWS_load.toList)
    {yd_CODE_ROWS_store : Option Addr} {yi_CODE_ROWS_store : Array Value} {yn_CODE_ROWS_store : Nat} {ys_CODE_ROWS_store : Array (Option Value)} (y_CODE_ROWS_store : K.lookup t_CODE_ROWS_store = some ⟨.type "tuple", yd_CODE_ROWS_store, .seq yi_CODE_ROWS_store yn_CODE_ROWS_store, ys_CODE_ROWS_store⟩) (u_CODE_ROWS_store : Vals [.str "R", .str "R", .str "d"] yi_CODE_ROWS_store.toList)
    {yd_CODE_ROWS_jump : Option Addr} {yi_CODE_ROWS_jump : Array Value} {yn_CODE_ROWS_jump : Nat} {ys_CODE_ROWS_jump : Array (Option Value)} (y_CODE_ROWS_jump : K.lookup t_CODE_ROWS_jump = some ⟨.type "tuple", yd_CODE_ROWS_jump, .seq yi_CODE_ROWS_jump yn_CODE_ROWS_jump, ys_CODE_ROWS_jump⟩) (u_CODE_ROWS_jump : Vals [.str "N"] yi_CODE_ROWS_jump.toList)
    {yd_CODE_ROWS_ifzero : Option Addr} {yi_CODE_ROWS_ifzero : Array Value} {yn_CODE_ROWS_ifzero : Nat} {ys_CODE_ROWS_ifzero : Array (Option Value)} (y_CODE_ROWS_ifzero : K.lookup t_CODE_ROWS_ifzero = some ⟨.type "tuple", yd_CODE_ROWS_ifzero, .seq yi_CODE_ROWS_ifzero yn_CODE_ROWS_ifzero, ys_CODE_ROWS_ifzero⟩) (u_CODE_ROWS_ifzero : Vals [.str "R", .str "N"] yi_CODE_ROWS_ifzero.toList)
    {yd_CODE_ROWS_call : Option Addr} {yi_CODE_ROWS_call : Array Value} {yn_CODE_ROWS_call : Nat} {ys_CODE_ROWS_call : Array (Option Value)} (y_CODE_ROWS_call : K.lookup t_CODE_ROWS_call = some ⟨.type "tuple", yd_CODE_ROWS_call, .seq yi_CODE_ROWS_call yn_CODE_ROWS_call, ys_CODE_ROWS_call⟩) (u_CODE_ROWS_call : Vals [.str "N"] yi_CODE_ROWS_call.toList)
    {yd_CODE_ROWS_callby : Option Addr} {yi_CODE_ROWS_callby : Array Value} {yn_CODE_ROWS_callby : Nat} {ys_CODE_ROWS_callby : Array (Option Value)} (y_CODE_ROWS_callby : K.lookup t_CODE_ROWS_callby = some ⟨.type "tuple", yd_CODE_ROWS_callby, .seq yi_CODE_ROWS_callby yn_CODE_ROWS_callby, ys_CODE_ROWS_callby⟩) (u_CODE_ROWS_callby : Vals [.str "R"] yi_CODE_ROWS_callby.toList)
    {yd_CODE_ROWS_back : Option Addr} {yi_CODE_ROWS_back : Array Value} {yn_CODE_ROWS_back : Nat} {ys_CODE_ROWS_back : Array (Option Value)} (y_CODE_ROWS_back : K.lookup t_CODE_ROWS_back = some ⟨.type "tuple", yd_CODE_ROWS_back, .seq yi_CODE_ROWS_back yn_CODE_ROWS_back, ys_CODE_ROWS_back⟩) (u_CODE_ROWS_back : Vals [] yi_CODE_ROWS_back.toList)
    {yd_CODE_ROWS_out : Option Addr} {yi_CODE_ROWS_out : Array Value} {yn_CODE_ROWS_out : Nat} {ys_CODE_ROWS_out : Array (Option Value)} (y_CODE_ROWS_out : K.lookup t_CODE_ROWS_out = some ⟨.type "tuple", yd_CODE_ROWS_out, .seq yi_CODE_ROWS_out yn_CODE_ROWS_out, ys_CODE_ROWS_out⟩) (u_CODE_ROWS_out : Vals [.str "R"] yi_CODE_ROWS_out.toList)
    {yd_CODE_ROWS_halt : Option Addr} {yi_CODE_ROWS_halt : Array Value} {yn_CODE_ROWS_halt : Nat} {ys_CODE_ROWS_halt : Array (Option Value)} (y_CODE_ROWS_halt : K.lookup t_CODE_ROWS_halt = some ⟨.type "tuple", yd_CODE_ROWS_halt, .seq yi_CODE_ROWS_halt yn_CODE_ROWS_halt, ys_CODE_ROWS_halt⟩) (u_CODE_ROWS_halt : Vals [] yi_CODE_ROWS_halt.toList)
    {yd_CODE_ROWS_room : Option Addr} {yi_CODE_ROWS_room : Array Value} {yn_CODE_ROWS_room : Nat} {ys_CODE_ROWS_room : Array (Option Value)} (y_CODE_ROWS_room : K.lookup t_CODE_ROWS_room = some ⟨.type "tuple", yd_CODE_ROWS_room, .seq yi_CODE_ROWS_room yn_CODE_ROWS_room, ys_CODE_ROWS_room⟩) (u_CODE_ROWS_room : Vals [.str "k"] yi_CODE_ROWS_room.toList)
    {qe_DATA_ROWS : Array DictEntry} {qz_DATA_ROWS : Nat} (dl_DATA_ROWS : K.lookup q_DATA_ROWS = some ⟨.type "dict", none, .dict qe_DATA_ROWS qz_DATA_ROWS, #[]⟩) (dk_DATA_ROWS : PySem.W.KeysLit w.params qe_DATA_ROWS.toList) (dw_DATA_ROWS : (q_DATA_ROWS == sysModules) = false)
    {t_DATA_ROWS_word : Addr}
    {t_DATA_ROWS_address : Addr}
    {t_DATA_ROWS_room : Addr}
    (pe_DATA_ROWS : Paired (fun (d : DictEntry) (p : Str × Value) => (∃ t, d.key = .str p.1 t) ∧ d.val = p.2) qe_DATA_ROWS.toList [("word", Value.ref t_DATA_ROWS_word), ("address", Value.ref t_DATA_ROWS_address), ("room", Value.ref t_DATA_ROWS_room)])
    {yd_DATA_ROWS_word : Option Addr} {yi_DATA_ROWS_word : Array Value} {yn_DATA_ROWS_word : Nat} {ys_DATA_ROWS_word : Array (Option Value)} (y_DATA_ROWS_word : K.lookup t_DATA_ROWS_word = some ⟨.type "tuple", yd_DATA_ROWS_word, .seq yi_DATA_ROWS_word yn_DATA_ROWS_word, ys_DATA_ROWS_word⟩) (u_DATA_ROWS_word : Vals [.str "n"] yi_DATA_ROWS_word.toList)
    {yd_DATA_ROWS_address : Option Addr} {yi_DATA_ROWS_address : Array Value} {yn_DATA_ROWS_address : Nat} {ys_DATA_ROWS_address : Array (Option Value)} (y_DATA_ROWS_address : K.lookup t_DATA_ROWS_address = some ⟨.type "tuple", yd_DATA_ROWS_address, .seq yi_DATA_ROWS_address yn_DATA_ROWS_address, ys_DATA_ROWS_address⟩) (u_DATA_ROWS_address : Vals [.str "N"] yi_DATA_ROWS_address.toList)
    {yd_DATA_ROWS_room : Option Addr} {yi_DATA_ROWS_room : Array Value} {yn_DATA_ROWS_room : Nat} {ys_DATA_ROWS_room : Array (Option Value)} (y_DATA_ROWS_room : K.lookup t_DATA_ROWS_room = some ⟨.type "tuple", yd_DATA_ROWS_room, .seq yi_DATA_ROWS_room yn_DATA_ROWS_room, ys_DATA_ROWS_room⟩) (u_DATA_ROWS_room : Vals [.str "k"] yi_DATA_ROWS_room.toList)
    {qe_BOUNDS : Array DictEntry} {qz_BOUNDS : Nat} (dl_BOUNDS : K.lookup q_BOUNDS = some ⟨.type "dict", none, .dict qe_BOUNDS qz_BOUNDS, #[]⟩) (dk_BOUNDS : PySem.W.KeysLit w.params qe_BOUNDS.toList) (dw_BOUNDS : (q_BOUNDS == sysModules) = false)
    {t_BOUNDS_n : Addr}
    {t_BOUNDS_d : Addr}
    {t_BOUNDS_k : Addr}
    (pe_BOUNDS : Paired (fun (d : DictEntry) (p : Str × Value) => (∃ t, d.key = .str p.1 t) ∧ d.val = p.2) qe_BOUNDS.toList [("n", Value.ref t_BOUNDS_n), ("d", Value.ref t_BOUNDS_d), ("k", Value.ref t_BOUNDS_k)])
    {yd_BOUNDS_n : Option Addr} {yi_BOUNDS_n : Array Value} {yn_BOUNDS_n : Nat} {ys_BOUNDS_n : Array (Option Value)} (y_BOUNDS_n : K.lookup t_BOUNDS_n = some ⟨.type "tuple", yd_BOUNDS_n, .seq yi_BOUNDS_n yn_BOUNDS_n, ys_BOUNDS_n⟩) (u_BOUNDS_n : Vals [.int 0, .int 65535] yi_BOUNDS_n.toList)
    {yd_BOUNDS_d : Option Addr} {yi_BOUNDS_d : Array Value} {yn_BOUNDS_d : Nat} {ys_BOUNDS_d : Array (Option Value)} (y_BOUNDS_d : K.lookup t_BOUNDS_d = some ⟨.type "tuple", yd_BOUNDS_d, .seq yi_BOUNDS_d yn_BOUNDS_d, ys_BOUNDS_d⟩) (u_BOUNDS_d : Vals [.int 0, .int 15] yi_BOUNDS_d.toList)
    {yd_BOUNDS_k : Option Addr} {yi_BOUNDS_k : Array Value} {yn_BOUNDS_k : Nat} {ys_BOUNDS_k : Array (Option Value)} (y_BOUNDS_k : K.lookup t_BOUNDS_k = some ⟨.type "tuple", yd_BOUNDS_k, .seq yi_BOUNDS_k yn_BOUNDS_k, ys_BOUNDS_k⟩) (u_BOUNDS_k : Vals [.int 1, .int 120] yi_BOUNDS_k.toList)
    : ∃ fd : FuncData, (∀ (s : Shared) (v : Value), BindsTo s fd ⟨[v], []⟩ [("_law_script", v)]) ∧ ∀ base : Heap, K.In base → base.Ns mainGlobals mg → FnOk l.prog w K mg base CX0 6 fa fd ["_law_script"] (sp_law K) := by
  have e := hfa.symm.trans (PySem.W.mg_of X G a_law)
  cases e
  have F_is_name := fun_mk (st := s_is_name) l_is_name c_is_name k_is_name
  have F_is_register := fun_mk (st := s_is_register) l_is_register c_is_register k_is_register
  have F_is_number := fun_mk (st := s_is_number) l_is_number c_is_number k_is_number
  have F_read_number := fun_mk (st := s_read_number) l_read_number c_read_number k_read_number
  have F_is_code_row := fun_mk (st := s_is_code_row) l_is_code_row c_is_code_row k_is_code_row
  have F_is_data_row := fun_mk (st := s_is_data_row) l_is_data_row c_is_data_row k_is_data_row
  have F_row_text := fun_mk (st := s_row_text) l_row_text c_row_text k_row_text
  have F_read_row := fun_mk (st := s_read_row) l_read_row c_read_row k_read_row
  have F_word_of := fun_mk (st := s_word_of) l_word_of c_word_of k_word_of
  have F_kinds_of := fun_mk (st := s_kinds_of) l_kinds_of c_kinds_of k_kinds_of
  have F_fit := fun_mk (st := s_fit) l_fit c_fit k_fit
  have F_fits := fun_mk (st := s_fits) l_fits c_fits k_fits
  have F_read_item := fun_mk (st := s_read_item) l_read_item c_read_item k_read_item
  have F_law_bag := fun_mk (st := s_law_bag) l_law_bag c_law_bag k_law_bag
  have F_law_draw := fun_mk (st := s_law_draw) l_law_draw c_law_draw k_law_draw
  have F_law_of := fun_mk (st := s_law_of) l_law_of c_law_of k_law_of
  have F_law_mixed := fun_mk (st := s_law_mixed) l_law_mixed c_law_mixed k_law_mixed
  have F_law_same := fun_mk (st := s_law_same) l_law_same c_law_same k_law_same
  have F_law_odd := fun_mk (st := s_law_odd) l_law_odd c_law_odd k_law_odd
  have F_law_titles := fun_mk (st := s_law_titles) l_law_titles c_law_titles k_law_titles
  have F_law_number := fun_mk (st := s_law_number) l_law_number c_law_number k_law_number
  have F_law_r := fun_mk (st := s_law_r) l_law_r c_law_r k_law_r
  have F_law_code_row := fun_mk (st := s_law_code_row) l_law_code_row c_law_code_row k_law_code_row
  have F_law_last_row := fun_mk (st := s_law_last_row) l_law_last_row c_law_last_row k_law_last_row
  have F_law_data_row := fun_mk (st := s_law_data_row) l_law_data_row c_law_data_row k_law_data_row
  have F_law_row_text := fun_mk (st := s_law_row_text) l_law_row_text c_law_row_text k_law_row_text
  have F_law_is_title := fun_mk (st := s_law_is_title) l_law_is_title c_law_is_title k_law_is_title
  have F_law_within := fun_mk (st := s_law_within) l_law_within c_law_within k_law_within
  have F_law_code_so := fun_mk (st := s_law_code_so) l_law_code_so c_law_code_so k_law_code_so
  have F_law_data_so := fun_mk (st := s_law_data_so) l_law_data_so c_law_data_so k_law_data_so
  have F_law_figure := fun_mk (st := s_law_figure) l_law_figure c_law_figure k_law_figure
  have F_law_row_of := fun_mk (st := s_law_row_of) l_law_row_of c_law_row_of k_law_row_of
  have F_law_bent_text := fun_mk (st := s_law_bent_text) l_law_bent_text c_law_bent_text k_law_bent_text
  have F_law := fun_mk (st := s_law) l_law c_law k_law
  let Z : Fs := ⟨f_is_name, PySem.W.fnOf "is_name" "is_name" (defArgs s_is_name) (defBody s_is_name) (defScope s_is_name) .none kV_is_name dc_is_name pm_is_name an_is_name cd_is_name ct_is_name, f_is_register, PySem.W.fnOf "is_register" "is_register" (defArgs s_is_register) (defBody s_is_register) (defScope s_is_register) .none kV_is_register dc_is_register pm_is_register an_is_register cd_is_register ct_is_register, f_is_number, PySem.W.fnOf "is_number" "is_number" (defArgs s_is_number) (defBody s_is_number) (defScope s_is_number) .none kV_is_number dc_is_number pm_is_number an_is_number cd_is_number ct_is_number, f_read_number, PySem.W.fnOf "read_number" "read_number" (defArgs s_read_number) (defBody s_read_number) (defScope s_read_number) .none kV_read_number dc_read_number pm_read_number an_read_number cd_read_number ct_read_number, f_is_code_row, PySem.W.fnOf "is_code_row" "is_code_row" (defArgs s_is_code_row) (defBody s_is_code_row) (defScope s_is_code_row) .none kV_is_code_row dc_is_code_row pm_is_code_row an_is_code_row cd_is_code_row ct_is_code_row, f_is_data_row, PySem.W.fnOf "is_data_row" "is_data_row" (defArgs s_is_data_row) (defBody s_is_data_row) (defScope s_is_data_row) .none kV_is_data_row dc_is_data_row pm_is_data_row an_is_data_row cd_is_data_row ct_is_data_row, f_row_text, PySem.W.fnOf "row_text" "row_text" (defArgs s_row_text) (defBody s_row_text) (defScope s_row_text) .none kV_row_text dc_row_text pm_row_text an_row_text cd_row_text ct_row_text, f_read_row, PySem.W.fnOf "read_row" "read_row" (defArgs s_read_row) (defBody s_read_row) (defScope s_read_row) .none kV_read_row dc_read_row pm_read_row an_read_row cd_read_row ct_read_row, f_word_of, PySem.W.fnOf "_word_of" "_word_of" (defArgs s_word_of) (defBody s_word_of) (defScope s_word_of) .none kV_word_of dc_word_of pm_word_of an_word_of cd_word_of ct_word_of, f_kinds_of, PySem.W.fnOf "_kinds_of" "_kinds_of" (defArgs s_kinds_of) (defBody s_kinds_of) (defScope s_kinds_of) .none kV_kinds_of dc_kinds_of pm_kinds_of an_kinds_of cd_kinds_of ct_kinds_of, f_fit, PySem.W.fnOf "_fit" "_fit" (defArgs s_fit) (defBody s_fit) (defScope s_fit) .none kV_fit dc_fit pm_fit an_fit cd_fit ct_fit, f_fits, PySem.W.fnOf "_fits" "_fits" (defArgs s_fits) (defBody s_fits) (defScope s_fits) .none kV_fits dc_fits pm_fits an_fits cd_fits ct_fits, f_read_item, PySem.W.fnOf "_read_item" "_read_item" (defArgs s_read_item) (defBody s_read_item) (defScope s_read_item) .none kV_read_item dc_read_item pm_read_item an_read_item cd_read_item ct_read_item, f_law_bag, PySem.W.fnOf "_law_bag" "_law_bag" (defArgs s_law_bag) (defBody s_law_bag) (defScope s_law_bag) .none kV_law_bag dc_law_bag pm_law_bag an_law_bag cd_law_bag ct_law_bag, f_law_draw, PySem.W.fnOf "_law_draw" "_law_draw" (defArgs s_law_draw) (defBody s_law_draw) (defScope s_law_draw) .none kV_law_draw dc_law_draw pm_law_draw an_law_draw cd_law_draw ct_law_draw, f_law_of, PySem.W.fnOf "_law_of" "_law_of" (defArgs s_law_of) (defBody s_law_of) (defScope s_law_of) .none kV_law_of dc_law_of pm_law_of an_law_of cd_law_of ct_law_of, f_law_mixed, PySem.W.fnOf "_law_mixed" "_law_mixed" (defArgs s_law_mixed) (defBody s_law_mixed) (defScope s_law_mixed) .none kV_law_mixed dc_law_mixed pm_law_mixed an_law_mixed cd_law_mixed ct_law_mixed, f_law_same, PySem.W.fnOf "_law_same" "_law_same" (defArgs s_law_same) (defBody s_law_same) (defScope s_law_same) .none kV_law_same dc_law_same pm_law_same an_law_same cd_law_same ct_law_same, f_law_odd, PySem.W.fnOf "_law_odd" "_law_odd" (defArgs s_law_odd) (defBody s_law_odd) (defScope s_law_odd) .none kV_law_odd dc_law_odd pm_law_odd an_law_odd cd_law_odd ct_law_odd, f_law_titles, PySem.W.fnOf "_law_titles" "_law_titles" (defArgs s_law_titles) (defBody s_law_titles) (defScope s_law_titles) .none kV_law_titles dc_law_titles pm_law_titles an_law_titles cd_law_titles ct_law_titles, f_law_number, PySem.W.fnOf "_law_number" "_law_number" (defArgs s_law_number) (defBody s_law_number) (defScope s_law_number) .none kV_law_number dc_law_number pm_law_number an_law_number cd_law_number ct_law_number, f_law_r, PySem.W.fnOf "_law_r" "_law_r" (defArgs s_law_r) (defBody s_law_r) (defScope s_law_r) .none kV_law_r dc_law_r pm_law_r an_law_r cd_law_r ct_law_r, f_law_code_row, PySem.W.fnOf "_law_code_row" "_law_code_row" (defArgs s_law_code_row) (defBody s_law_code_row) (defScope s_law_code_row) .none kV_law_code_row dc_law_code_row pm_law_code_row an_law_code_row cd_law_code_row ct_law_code_row, f_law_last_row, PySem.W.fnOf "_law_last_row" "_law_last_row" (defArgs s_law_last_row) (defBody s_law_last_row) (defScope s_law_last_row) .none kV_law_last_row dc_law_last_row pm_law_last_row an_law_last_row cd_law_last_row ct_law_last_row, f_law_data_row, PySem.W.fnOf "_law_data_row" "_law_data_row" (defArgs s_law_data_row) (defBody s_law_data_row) (defScope s_law_data_row) .none kV_law_data_row dc_law_data_row pm_law_data_row an_law_data_row cd_law_data_row ct_law_data_row, f_law_row_text, PySem.W.fnOf "_law_row_text" "_law_row_text" (defArgs s_law_row_text) (defBody s_law_row_text) (defScope s_law_row_text) .none kV_law_row_text dc_law_row_text pm_law_row_text an_law_row_text cd_law_row_text ct_law_row_text, f_law_is_title, PySem.W.fnOf "_law_is_title" "_law_is_title" (defArgs s_law_is_title) (defBody s_law_is_title) (defScope s_law_is_title) .none kV_law_is_title dc_law_is_title pm_law_is_title an_law_is_title cd_law_is_title ct_law_is_title, f_law_within, PySem.W.fnOf "_law_within" "_law_within" (defArgs s_law_within) (defBody s_law_within) (defScope s_law_within) .none kV_law_within dc_law_within pm_law_within an_law_within cd_law_within ct_law_within, f_law_code_so, PySem.W.fnOf "_law_code_so" "_law_code_so" (defArgs s_law_code_so) (defBody s_law_code_so) (defScope s_law_code_so) .none kV_law_code_so dc_law_code_so pm_law_code_so an_law_code_so cd_law_code_so ct_law_code_so, f_law_data_so, PySem.W.fnOf "_law_data_so" "_law_data_so" (defArgs s_law_data_so) (defBody s_law_data_so) (defScope s_law_data_so) .none kV_law_data_so dc_law_data_so pm_law_data_so an_law_data_so cd_law_data_so ct_law_data_so, f_law_figure, PySem.W.fnOf "_law_figure" "_law_figure" (defArgs s_law_figure) (defBody s_law_figure) (defScope s_law_figure) .none kV_law_figure dc_law_figure pm_law_figure an_law_figure cd_law_figure ct_law_figure, f_law_row_of, PySem.W.fnOf "_law_row_of" "_law_row_of" (defArgs s_law_row_of) (defBody s_law_row_of) (defScope s_law_row_of) .none kV_law_row_of dc_law_row_of pm_law_row_of an_law_row_of cd_law_row_of ct_law_row_of, f_law_bent_text, PySem.W.fnOf "_law_bent_text" "_law_bent_text" (defArgs s_law_bent_text) (defBody s_law_bent_text) (defScope s_law_bent_text) .none kV_law_bent_text dc_law_bent_text pm_law_bent_text an_law_bent_text cd_law_bent_text ct_law_bent_text, fa, PySem.W.fnOf "law" "law" (defArgs s_law) (defBody s_law) (defScope s_law) .none kV_law dc_law pm_law an_law cd_law ct_law, qe_CODE_ROWS, qz_CODE_ROWS, qe_DATA_ROWS, qz_DATA_ROWS, qe_BOUNDS, qz_BOUNDS, q_REGISTERS, q_CODE_ROWS, q_DATA_ROWS, q_BOUNDS⟩
  have T : Txt K w mg Z := ⟨F_is_name,
    PySem.W.mg_of X G a_is_name,
    F_is_name.binds (ps := ["value"]) fun _ _ _ _ _ _ us hl => match us, hl with | [_], _ => rfl,
    F_is_register,
    PySem.W.mg_of X G a_is_register,
    F_is_register.binds (ps := ["value"]) fun _ _ _ _ _ _ us hl => match us, hl with | [_], _ => rfl,
    F_is_number,
    PySem.W.mg_of X G a_is_number,
    F_is_number.binds (ps := ["value", "least", "most"]) fun _ _ _ _ _ _ us hl => match us, hl with | [_, _, _], _ => rfl,
    F_read_number,
    PySem.W.mg_of X G a_read_number,
    F_read_number.binds (ps := ["text"]) fun _ _ _ _ _ _ us hl => match us, hl with | [_], _ => rfl,
    F_is_code_row,
    PySem.W.mg_of X G a_is_code_row,
    F_is_code_row.binds (ps := ["value"]) fun _ _ _ _ _ _ us hl => match us, hl with | [_], _ => rfl,
    F_is_data_row,
    PySem.W.mg_of X G a_is_data_row,
    F_is_data_row.binds (ps := ["value"]) fun _ _ _ _ _ _ us hl => match us, hl with | [_], _ => rfl,
    F_row_text,
    PySem.W.mg_of X G a_row_text,
    F_row_text.binds (ps := ["row"]) fun _ _ _ _ _ _ us hl => match us, hl with | [_], _ => rfl,
    kbn_k_row_text_0_row F_row_text,
    F_read_row,
    PySem.W.mg_of X G a_read_row,
    F_read_row.binds (ps := ["text"]) fun _ _ _ _ _ _ us hl => match us, hl with | [_], _ => rfl,
    kbn_k_read_row_0_text F_read_row,
    F_word_of,
    PySem.W.mg_of X G a_word_of,
    F_word_of.binds (ps := ["value"]) fun _ _ _ _ _ _ us hl => match us, hl with | [_], _ => rfl,
    F_kinds_of,
    PySem.W.mg_of X G a_kinds_of,
    F_kinds_of.binds (ps := ["word"]) fun _ _ _ _ _ _ us hl => match us, hl with | [_], _ => rfl,
    F_fit,
    PySem.W.mg_of X G a_fit,
    F_fit.binds (ps := ["items", "kinds"]) fun _ _ _ _ _ _ us hl => match us, hl with | [_, _], _ => rfl,
    F_fits,
    PySem.W.mg_of X G a_fits,
    F_fits.binds (ps := ["item", "kind"]) fun _ _ _ _ _ _ us hl => match us, hl with | [_, _], _ => rfl,
    F_read_item,
    PySem.W.mg_of X G a_read_item,
    F_read_item.binds (ps := ["text", "kind"]) fun _ _ _ _ _ _ us hl => match us, hl with | [_, _], _ => rfl,
    F_law_bag,
    PySem.W.mg_of X G a_law_bag,
    F_law_bag.binds (ps := ["_law_script"]) fun _ _ _ _ _ _ us hl => match us, hl with | [_], _ => rfl,
    F_law_draw,
    PySem.W.mg_of X G a_law_draw,
    F_law_draw.binds (ps := ["_law_bag_here", "_law_sides"]) fun _ _ _ _ _ _ us hl => match us, hl with | [_, _], _ => rfl,
    F_law_of,
    PySem.W.mg_of X G a_law_of,
    F_law_of.binds (ps := ["_law_bag_here", "_law_things"]) fun _ _ _ _ _ _ us hl => match us, hl with | [_, _], _ => rfl,
    F_law_mixed,
    PySem.W.mg_of X G a_law_mixed,
    F_law_mixed.binds (ps := ["_law_bag_here", "_law_things"]) fun _ _ _ _ _ _ us hl => match us, hl with | [_, _], _ => rfl,
    F_law_same,
    PySem.W.mg_of X G a_law_same,
    F_law_same.binds (ps := ["_law_found", "_law_due"]) fun _ _ _ _ _ _ us hl => match us, hl with | [_, _], _ => rfl,
    F_law_odd,
    PySem.W.mg_of X G a_law_odd,
    F_law_odd.binds (ps := ["_law_bag_here", "_law_more"]) fun _ _ _ _ _ _ us hl => match us, hl with | [_, _], _ => rfl,
    F_law_titles,
    PySem.W.mg_of X G a_law_titles,
    F_law_titles.binds (ps := ["_law_bag_here", "_law_many"]) fun _ _ _ _ _ _ us hl => match us, hl with | [_, _], _ => rfl,
    F_law_number,
    PySem.W.mg_of X G a_law_number,
    F_law_number.binds (ps := ["_law_bag_here"]) fun _ _ _ _ _ _ us hl => match us, hl with | [_], _ => rfl,
    F_law_r,
    PySem.W.mg_of X G a_law_r,
    F_law_r.binds (ps := ["_law_bag_here"]) fun _ _ _ _ _ _ us hl => match us, hl with | [_], _ => rfl,
    F_law_code_row,
    PySem.W.mg_of X G a_law_code_row,
    F_law_code_row.binds (ps := ["_law_bag_here", "_law_titles_here"]) fun _ _ _ _ _ _ us hl => match us, hl with | [_, _], _ => rfl,
    F_law_last_row,
    PySem.W.mg_of X G a_law_last_row,
    F_law_last_row.binds (ps := ["_law_bag_here", "_law_titles_here"]) fun _ _ _ _ _ _ us hl => match us, hl with | [_, _], _ => rfl,
    F_law_data_row,
    PySem.W.mg_of X G a_law_data_row,
    F_law_data_row.binds (ps := ["_law_bag_here", "_law_titles_here"]) fun _ _ _ _ _ _ us hl => match us, hl with | [_, _], _ => rfl,
    F_law_row_text,
    PySem.W.mg_of X G a_law_row_text,
    F_law_row_text.binds (ps := ["_law_one"]) fun _ _ _ _ _ _ us hl => match us, hl with | [_], _ => rfl,
    F_law_is_title,
    PySem.W.mg_of X G a_law_is_title,
    F_law_is_title.binds (ps := ["_law_thing"]) fun _ _ _ _ _ _ us hl => match us, hl with | [_], _ => rfl,
    F_law_within,
    PySem.W.mg_of X G a_law_within,
    F_law_within.binds (ps := ["_law_thing", "_law_low_y", "_law_high_y"]) fun _ _ _ _ _ _ us hl => match us, hl with | [_, _, _], _ => rfl,
    F_law_code_so,
    PySem.W.mg_of X G a_law_code_so,
    F_law_code_so.binds (ps := ["_law_thing"]) fun _ _ _ _ _ _ us hl => match us, hl with | [_], _ => rfl,
    F_law_data_so,
    PySem.W.mg_of X G a_law_data_so,
    F_law_data_so.binds (ps := ["_law_thing"]) fun _ _ _ _ _ _ us hl => match us, hl with | [_], _ => rfl,
    F_law_figure,
    PySem.W.mg_of X G a_law_figure,
    F_law_figure.binds (ps := ["_law_word_y"]) fun _ _ _ _ _ _ us hl => match us, hl with | [_], _ => rfl,
    F_law_row_of,
    PySem.W.mg_of X G a_law_row_of,
    F_law_row_of.binds (ps := ["_law_words", "_law_side"]) fun _ _ _ _ _ _ us hl => match us, hl with | [_, _], _ => rfl,
    F_law_bent_text,
    PySem.W.mg_of X G a_law_bent_text,
    F_law_bent_text.binds (ps := ["_law_bag_here", "_law_told"]) fun _ _ _ _ _ _ us hl => match us, hl with | [_, _], _ => rfl,
    F_law,
    PySem.W.mg_of X G a_law,
    F_law.binds (ps := ["_law_script"]) fun _ _ _ _ _ _ us hl => match us, hl with | [_], _ => rfl,
    PySem.W.mg_none_of X G n_abs,
    PySem.W.mg_none_of X G n_all,
    PySem.W.mg_none_of X G n_bool,
    PySem.W.mg_none_of X G n_int,
    PySem.W.mg_none_of X G n_isinstance,
    PySem.W.mg_none_of X G n_len,
    PySem.W.mg_none_of X G n_list,
    PySem.W.mg_none_of X G n_range,
    PySem.W.mg_none_of X G n_str,
    PySem.W.mg_none_of X G n_tuple,
    PySem.W.mg_none_of X G n_zip,
    ⟨_, PySem.W.mg_of X G g_MOST_LETTERS⟩,
    ⟨_, PySem.W.mg_of X G g_MOST_DIGITS⟩,
    PySem.W.mg_of X G g_REGISTERS,
    fun _ => .inr ⟨_, _, _, v_REGISTERS, rfl, rfl, (Nat.le_trans (Nat.le_of_eq (Array.length_toList.symm.trans w_REGISTERS.length.symm)) (by show 3 ≤ sizeLine; decide)), w_REGISTERS⟩,
    ⟨_, v_REGISTERS, rfl, rfl⟩,
    PySem.W.mg_of X G g_CODE_ROWS,
    PySem.W.mg_of X G g_DATA_ROWS,
    PySem.W.mg_of X G g_BOUNDS,
    ⟨dl_CODE_ROWS, dk_CODE_ROWS, dw_CODE_ROWS⟩,
    fun z => ⟨_, nsIn_of dl_CODE_ROWS pe_CODE_ROWS z, find_rel (show Paired (fun (p : Str × List V) (q : Str × Value) => p.1 = q.1 ∧ RelTu K p.2 q.2) tb_CODE_ROWS [("put", Value.ref t_CODE_ROWS_put), ("name", Value.ref t_CODE_ROWS_name), ("add", Value.ref t_CODE_ROWS_add), ("take", Value.ref t_CODE_ROWS_take), ("load", Value.ref t_CODE_ROWS_load), ("store", Value.ref t_CODE_ROWS_store), ("jump", Value.ref t_CODE_ROWS_jump), ("ifzero", Value.ref t_CODE_ROWS_ifzero), ("call", Value.ref t_CODE_ROWS_call), ("callby", Value.ref t_CODE_ROWS_callby), ("back", Value.ref t_CODE_ROWS_back), ("out", Value.ref t_CODE_ROWS_out), ("halt", Value.ref t_CODE_ROWS_halt), ("room", Value.ref t_CODE_ROWS_room)] from (.cons ⟨rfl, ⟨t_CODE_ROWS_put, rfl, fun _ => .inr ⟨_, _, _, y_CODE_ROWS_put, rfl, rfl, (Nat.le_trans (Nat.le_of_eq (Array.length_toList.symm.trans u_CODE_ROWS_put.length.symm)) (by show 2 ≤ sizeLine; decide)), u_CODE_ROWS_put⟩⟩⟩ (.cons ⟨rfl, ⟨t_CODE_ROWS_name, rfl, fun _ => .inr ⟨_, _, _, y_CODE_ROWS_name, rfl, rfl, (Nat.le_trans (Nat.le_of_eq (Array.length_toList.symm.trans u_CODE_ROWS_name.length.symm)) (by show 2 ≤ sizeLine; decide)), u_CODE_ROWS_name⟩⟩⟩ (.cons ⟨rfl, ⟨t_CODE_ROWS_add, rfl, fun _ => .inr ⟨_, _, _, y_CODE_ROWS_add, rfl, rfl, (Nat.le_trans (Nat.le_of_eq (Array.length_toList.symm.trans u_CODE_ROWS_add.length.symm)) (by show 2 ≤ sizeLine; decide)), u_CODE_ROWS_add⟩⟩⟩ (.cons ⟨rfl, ⟨t_CODE_ROWS_take, rfl, fun _ => .inr ⟨_, _, _, y_CODE_ROWS_take, rfl, rfl, (Nat.le_trans (Nat.le_of_eq (Array.length_toList.symm.trans u_CODE_ROWS_take.length.symm)) (by show 2 ≤ sizeLine; decide)), u_CODE_ROWS_take⟩⟩⟩ (.cons ⟨rfl, ⟨t_CODE_ROWS_load, rfl, fun _ => .inr ⟨_, _, _, y_CODE_ROWS_load, rfl, rfl, (Nat.le_trans (Nat.le_of_eq (Array.length_toList.symm.trans u_CODE_ROWS_load.length.symm)) (by show 3 ≤ sizeLine; decide)), u_CODE_ROWS_load⟩⟩⟩ (.cons ⟨rfl, ⟨t_CODE_ROWS_store, rfl, fun _ => .inr ⟨_, _, _, y_CODE_ROWS_store, rfl, rfl, (Nat.le_trans (Nat.le_of_eq (Array.length_toList.symm.trans u_CODE_ROWS_store.length.symm)) (by show 3 ≤ sizeLine; decide)), u_CODE_ROWS_store⟩⟩⟩ (.cons ⟨rfl, ⟨t_CODE_ROWS_jump, rfl, fun _ => .inr ⟨_, _, _, y_CODE_ROWS_jump, rfl, rfl, (Nat.le_trans (Nat.le_of_eq (Array.length_toList.symm.trans u_CODE_ROWS_jump.length.symm)) (by show 1 ≤ sizeLine; decide)), u_CODE_ROWS_jump⟩⟩⟩ (.cons ⟨rfl, ⟨t_CODE_ROWS_ifzero, rfl, fun _ => .inr ⟨_, _, _, y_CODE_ROWS_ifzero, rfl, rfl, (Nat.le_trans (Nat.le_of_eq (Array.length_toList.symm.trans u_CODE_ROWS_ifzero.length.symm)) (by show 2 ≤ sizeLine; decide)), u_CODE_ROWS_ifzero⟩⟩⟩ (.cons ⟨rfl, ⟨t_CODE_ROWS_call, rfl, fun _ => .inr ⟨_, _, _, y_CODE_ROWS_call, rfl, rfl, (Nat.le_trans (Nat.le_of_eq (Array.length_toList.symm.trans u_CODE_ROWS_call.length.symm)) (by show 1 ≤ sizeLine; decide)), u_CODE_ROWS_call⟩⟩⟩ (.cons ⟨rfl, ⟨t_CODE_ROWS_callby, rfl, fun _ => .inr ⟨_, _, _, y_CODE_ROWS_callby, rfl, rfl, (Nat.le_trans (Nat.le_of_eq (Array.length_toList.symm.trans u_CODE_ROWS_callby.length.symm)) (by show 1 ≤ sizeLine; decide)), u_CODE_ROWS_callby⟩⟩⟩ (.cons ⟨rfl, ⟨t_CODE_ROWS_back, rfl, fun _ => .inr ⟨_, _, _, y_CODE_ROWS_back, rfl, rfl, (Nat.le_trans (Nat.le_of_eq (Array.length_toList.symm.trans u_CODE_ROWS_back.length.symm)) (by show 0 ≤ sizeLine; decide)), u_CODE_ROWS_back⟩⟩⟩ (.cons ⟨rfl, ⟨t_CODE_ROWS_out, rfl, fun _ => .inr ⟨_, _, _, y_CODE_ROWS_out, rfl, rfl, (Nat.le_trans (Nat.le_of_eq (Array.length_toList.symm.trans u_CODE_ROWS_out.length.symm)) (by show 1 ≤ sizeLine; decide)), u_CODE_ROWS_out⟩⟩⟩ (.cons ⟨rfl, ⟨t_CODE_ROWS_halt, rfl, fun _ => .inr ⟨_, _, _, y_CODE_ROWS_halt, rfl, rfl, (Nat.le_trans (Nat.le_of_eq (Array.length_toList.symm.trans u_CODE_ROWS_halt.length.symm)) (by show 0 ≤ sizeLine; decide)), u_CODE_ROWS_halt⟩⟩⟩ (.cons ⟨rfl, ⟨t_CODE_ROWS_room, rfl, fun _ => .inr ⟨_, _, _, y_CODE_ROWS_room, rfl, rfl, (Nat.le_trans (Nat.le_of_eq (Array.length_toList.symm.trans u_CODE_ROWS_room.length.symm)) (by show 1 ≤ sizeLine; decide)), u_CODE_ROWS_room⟩⟩⟩ .nil))))))))))))))) z⟩,
    ⟨dl_DATA_ROWS, dk_DATA_ROWS, dw_DATA_ROWS⟩,
    fun z => ⟨_, nsIn_of dl_DATA_ROWS pe_DATA_ROWS z, find_rel (show Paired (fun (p : Str × List V) (q : Str × Value) => p.1 = q.1 ∧ RelTu K p.2 q.2) tb_DATA_ROWS [("word", Value.ref t_DATA_ROWS_word), ("address", Value.ref t_DATA_ROWS_address), ("room", Value.ref t_DATA_ROWS_room)] from (.cons ⟨rfl, ⟨t_DATA_ROWS_word, rfl, fun _ => .inr ⟨_, _, _, y_DATA_ROWS_word, rfl, rfl, (Nat.le_trans (Nat.le_of_eq (Array.length_toList.symm.trans u_DATA_ROWS_word.length.symm)) (by show 1 ≤ sizeLine; decide)), u_DATA_ROWS_word⟩⟩⟩ (.cons ⟨rfl, ⟨t_DATA_ROWS_address, rfl, fun _ => .inr ⟨_, _, _, y_DATA_ROWS_address, rfl, rfl, (Nat.le_trans (Nat.le_of_eq (Array.length_toList.symm.trans u_DATA_ROWS_address.length.symm)) (by show 1 ≤ sizeLine; decide)), u_DATA_ROWS_address⟩⟩⟩ (.cons ⟨rfl, ⟨t_DATA_ROWS_room, rfl, fun _ => .inr ⟨_, _, _, y_DATA_ROWS_room, rfl, rfl, (Nat.le_trans (Nat.le_of_eq (Array.length_toList.symm.trans u_DATA_ROWS_room.length.symm)) (by show 1 ≤ sizeLine; decide)), u_DATA_ROWS_room⟩⟩⟩ .nil)))) z⟩,
    ⟨dl_BOUNDS, dk_BOUNDS, dw_BOUNDS⟩,
    fun z => ⟨_, nsIn_of dl_BOUNDS pe_BOUNDS z, find_rel (show Paired (fun (p : Str × List V) (q : Str × Value) => p.1 = q.1 ∧ RelTu K p.2 q.2) tb_BOUNDS [("n", Value.ref t_BOUNDS_n), ("d", Value.ref t_BOUNDS_d), ("k", Value.ref t_BOUNDS_k)] from (.cons ⟨rfl, ⟨t_BOUNDS_n, rfl, fun _ => .inr ⟨_, _, _, y_BOUNDS_n, rfl, rfl, (Nat.le_trans (Nat.le_of_eq (Array.length_toList.symm.trans u_BOUNDS_n.length.symm)) (by show 2 ≤ sizeLine; decide)), u_BOUNDS_n⟩⟩⟩ (.cons ⟨rfl, ⟨t_BOUNDS_d, rfl, fun _ => .inr ⟨_, _, _, y_BOUNDS_d, rfl, rfl, (Nat.le_trans (Nat.le_of_eq (Array.length_toList.symm.trans u_BOUNDS_d.length.symm)) (by show 2 ≤ sizeLine; decide)), u_BOUNDS_d⟩⟩⟩ (.cons ⟨rfl, ⟨t_BOUNDS_k, rfl, fun _ => .inr ⟨_, _, _, y_BOUNDS_k, rfl, rfl, (Nat.le_trans (Nat.le_of_eq (Array.length_toList.symm.trans u_BOUNDS_k.length.symm)) (by show 2 ≤ sizeLine; decide)), u_BOUNDS_k⟩⟩⟩ .nil)))) z⟩⟩
  exact ⟨Z.d_law, fun s v => .of_eq rfl, fun base _ _ => ok_law T⟩
end Kk
open PySem PySem.W PyProof.Rows
set_option maxRecDepth 100000 in
set_option maxHeartbeats 0 in
theorem PySem.Challenge.cw_leastimage_k03_whole_texts_of_rows_holds : PySem.Challenge.rw_leastimage_k03_whole_texts_of_rows.Holds := by
  w_on; o_law; k_head; (case hw => w_witness2)
  k_fill
  refine L2.walk_of (l := PySem.Challenge.rw_leastimage_k03_whole_texts_of_rows) (n := 63) (k := 6) (x := "_law_script") (CX := fun _ => L2.CX0) (sp := fun w => Kk.sp_law _) rfl (by decide) rfl ⟨rfl, by decide, by decide⟩ (fun w h Y => PySem.W.kIn_of Y) ?F (fun _ _ a ns hl _ hS => ⟨a, ns, rfl, hS, hl, fun _ => rfl⟩) (fun _ _ _ _ _ h => h)
  case F =>
    intro w mg fa h KX G hmg
    refine' Kk.all_mk KX G hmg ?a_is_name ?l_is_name ?c_is_name ?k_is_name ?a_is_register ?l_is_register ?c_is_register ?k_is_register ?a_is_number ?l_is_number ?c_is_number ?k_is_number ?a_read_number ?l_read_number ?c_read_number ?k_read_number ?a_is_code_row ?l_is_code_row ?c_is_code_row ?k_is_code_row ?a_is_data_row ?l_is_data_row ?c_is_data_row ?k_is_data_row ?a_row_text ?l_row_text ?c_row_text ?k_row_text ?a_read_row ?l_read_row ?c_read_row ?k_read_row ?a_word_of ?l_word_of ?c_word_of ?k_word_of ?a_kinds_of ?l_kinds_of ?c_kinds_of ?k_kinds_of ?a_fit ?l_fit ?c_fit ?k_fit ?a_fits ?l_fits ?c_fits ?k_fits ?a_read_item ?l_read_item ?c_read_item ?k_read_item ?a_law_bag ?l_law_bag ?c_law_bag ?k_law_bag ?a_law_draw ?l_law_draw ?c_law_draw ?k_law_draw ?a_law_of ?l_law_of ?c_law_of ?k_law_of ?a_law_mixed ?l_law_mixed ?c_law_mixed ?k_law_mixed ?a_law_same ?l_law_same ?c_law_same ?k_law_same ?a_law_odd ?l_law_odd ?c_law_odd ?k_law_odd ?a_law_titles ?l_law_titles ?c_law_titles ?k_law_titles ?a_law_number ?l_law_number ?c_law_number ?k_law_number ?a_law_r ?l_law_r ?c_law_r ?k_law_r ?a_law_code_row ?l_law_code_row ?c_law_code_row ?k_law_code_row ?a_law_last_row ?l_law_last_row ?c_law_last_row ?k_law_last_row ?a_law_data_row ?l_law_data_row ?c_law_data_row ?k_law_data_row ?a_law_row_text ?l_law_row_text ?c_law_row_text ?k_law_row_text ?a_law_is_title ?l_law_is_title ?c_law_is_title ?k_law_is_title ?a_law_within ?l_law_within ?c_law_within ?k_law_within ?a_law_code_so ?l_law_code_so ?c_law_code_so ?k_law_code_so ?a_law_data_so ?l_law_data_so ?c_law_data_so ?k_law_data_so ?a_law_figure ?l_law_figure ?c_law_figure ?k_law_figure ?a_law_row_of ?l_law_row_of ?c_law_row_of ?k_law_row_of ?a_law_bent_text ?l_law_bent_text ?c_law_bent_text ?k_law_bent_text ?a_law ?l_law ?c_law ?k_law ?n_abs ?n_all ?n_bool ?n_int ?n_isinstance ?n_len ?n_list ?n_range ?n_str ?n_tuple ?n_zip ?g_MOST_LETTERS ?g_MOST_DIGITS ?g_REGISTERS ?v_REGISTERS ?w_REGISTERS ?g_CODE_ROWS ?g_DATA_ROWS ?g_BOUNDS ?dl_CODE_ROWS ?dk_CODE_ROWS ?dw_CODE_ROWS ?pe_CODE_ROWS ?y_CODE_ROWS_put ?u_CODE_ROWS_put ?y_CODE_ROWS_name ?u_CODE_ROWS_name ?y_CODE_ROWS_add ?u_CODE_ROWS_add ?y_CODE_ROWS_take ?u_CODE_ROWS_take ?y_CODE_ROWS_load ?u_CODE_ROWS_load ?y_CODE_ROWS_store ?u_CODE_ROWS_store ?y_CODE_ROWS_jump ?u_CODE_ROWS_jump ?y_CODE_ROWS_ifzero ?u_CODE_ROWS_ifzero ?y_CODE_ROWS_call ?u_CODE_ROWS_call ?y_CODE_ROWS_callby ?u_CODE_ROWS_callby ?y_CODE_ROWS_back ?u_CODE_ROWS_back ?y_CODE_ROWS_out ?u_CODE_ROWS_out ?y_CODE_ROWS_halt ?u_CODE_ROWS_halt ?y_CODE_ROWS_room ?u_CODE_ROWS_room ?dl_DATA_ROWS ?dk_DATA_ROWS ?dw_DATA_ROWS ?pe_DATA_ROWS ?y_DATA_ROWS_word ?u_DATA_ROWS_word ?y_DATA_ROWS_address ?u_DATA_ROWS_address ?y_DATA_ROWS_room ?u_DATA_ROWS_room ?dl_BOUNDS ?dk_BOUNDS ?dw_BOUNDS ?pe_BOUNDS ?y_BOUNDS_n ?u_BOUNDS_n ?y_BOUNDS_d ?u_BOUNDS_d ?y_BOUNDS_k ?u_BOUNDS_k
    (case a_is_name => k_is)
    (case l_is_name => k_is)
    (case c_is_name => k_is)
    (case k_is_name => k_is)
    (case a_is_register => k_is)
    (case l_is_register => k_is)
    (case c_is_register => k_is)
    (case k_is_register => k_is)
    (case a_is_number => k_is)
    (case l_is_number => k_is)
    (case c_is_number => k_is)
    (case k_is_number => k_is)
    (case a_read_number => k_is)
    (case l_read_number => k_is)
    (case c_read_number => k_is)
    (case k_read_number => k_is)
    (case a_is_code_row => k_is)
    (case l_is_code_row => k_is)
    (case c_is_code_row => k_is)
    (case k_is_code_row => k_is)
    (case a_is_data_row => k_is)
    (case l_is_data_row => k_is)
    (case c_is_data_row => k_is)
    (case k_is_data_row => k_is)
    (case a_row_text => k_is)
    (case l_row_text => k_is)
    (case c_row_text => k_is)
    (case k_row_text => k_is)
    (case a_read_row => k_is)
    (case l_read_row => k_is)
    (case c_read_row => k_is)
    (case k_read_row => k_is)
    (case a_word_of => k_is)
    (case l_word_of => k_is)
    (case c_word_of => k_is)
    (case k_word_of => k_is)
    (case a_kinds_of => k_is)
    (case l_kinds_of => k_is)
    (case c_kinds_of => k_is)
    (case k_kinds_of => k_is)
    (case a_fit => k_is)
    (case l_fit => k_is)
    (case c_fit => k_is)
    (case k_fit => k_is)
    (case a_fits => k_is)
    (case l_fits => k_is)
    (case c_fits => k_is)
    (case k_fits => k_is)
    (case a_read_item => k_is)
    (case l_read_item => k_is)
    (case c_read_item => k_is)
    (case k_read_item => k_is)
    (case a_law_bag => k_is)
    (case l_law_bag => k_is)
    (case c_law_bag => k_is)
    (case k_law_bag => k_is)
    (case a_law_draw => k_is)
    (case l_law_draw => k_is)
    (case c_law_draw => k_is)
    (case k_law_draw => k_is)
    (case a_law_of => k_is)
    (case l_law_of => k_is)
    (case c_law_of => k_is)
    (case k_law_of => k_is)
    (case a_law_mixed => k_is)
    (case l_law_mixed => k_is)
    (case c_law_mixed => k_is)
    (case k_law_mixed => k_is)
    (case a_law_same => k_is)
    (case l_law_same => k_is)
    (case c_law_same => k_is)
    (case k_law_same => k_is)
    (case a_law_odd => k_is)
    (case l_law_odd => k_is)
    (case c_law_odd => k_is)
    (case k_law_odd => k_is)
    (case a_law_titles => k_is)
    (case l_law_titles => k_is)
    (case c_law_titles => k_is)
    (case k_law_titles => k_is)
    (case a_law_number => k_is)
    (case l_law_number => k_is)
    (case c_law_number => k_is)
    (case k_law_number => k_is)
    (case a_law_r => k_is)
    (case l_law_r => k_is)
    (case c_law_r => k_is)
    (case k_law_r => k_is)
    (case a_law_code_row => k_is)
    (case l_law_code_row => k_is)
    (case c_law_code_row => k_is)
    (case k_law_code_row => k_is)
    (case a_law_last_row => k_is)
    (case l_law_last_row => k_is)
    (case c_law_last_row => k_is)
    (case k_law_last_row => k_is)
    (case a_law_data_row => k_is)
    (case l_law_data_row => k_is)
    (case c_law_data_row => k_is)
    (case k_law_data_row => k_is)
    (case a_law_row_text => k_is)
    (case l_law_row_text => k_is)
    (case c_law_row_text => k_is)
    (case k_law_row_text => k_is)
    (case a_law_is_title => k_is)
    (case l_law_is_title => k_is)
    (case c_law_is_title => k_is)
    (case k_law_is_title => k_is)
    (case a_law_within => k_is)
    (case l_law_within => k_is)
    (case c_law_within => k_is)
    (case k_law_within => k_is)
    (case a_law_code_so => k_is)
    (case l_law_code_so => k_is)
    (case c_law_code_so => k_is)
    (case k_law_code_so => k_is)
    (case a_law_data_so => k_is)
    (case l_law_data_so => k_is)
    (case c_law_data_so => k_is)
    (case k_law_data_so => k_is)
    (case a_law_figure => k_is)
    (case l_law_figure => k_is)
    (case c_law_figure => k_is)
    (case k_law_figure => k_is)
    (case a_law_row_of => k_is)
    (case l_law_row_of => k_is)
    (case c_law_row_of => k_is)
    (case k_law_row_of => k_is)
    (case a_law_bent_text => k_is)
    (case l_law_bent_text => k_is)
    (case c_law_bent_text => k_is)
    (case k_law_bent_text => k_is)
    (case a_law => k_is)
    (case l_law => k_is)
    (case c_law => k_is)
    (case k_law => k_is)
    (case n_abs => k_is)
    (case n_all => k_is)
    (case n_bool => k_is)
    (case n_int => k_is)
    (case n_isinstance => k_is)
    (case n_len => k_is)
    (case n_list => k_is)
    (case n_range => k_is)
    (case n_str => k_is)
    (case n_tuple => k_is)
    (case n_zip => k_is)
    (case g_MOST_LETTERS => k_is)
    (case g_MOST_DIGITS => k_is)
    (case g_REGISTERS => k_is)
    (case v_REGISTERS => k_is)
    (case w_REGISTERS => exact (.cons ⟨_, rfl⟩ (.cons ⟨_, rfl⟩ (.cons ⟨_, rfl⟩ .nil))))
    (case g_CODE_ROWS => k_is)
    (case g_DATA_ROWS => k_is)
    (case g_BOUNDS => k_is)
    (case dl_CODE_ROWS => k_is)
    (case dk_CODE_ROWS => repeat (first | exact trivial | refine ⟨⟨_, _, rfl, rfl⟩, ?_⟩))
    (case dw_CODE_ROWS => first | rfl | decide +kernel)
    (case pe_CODE_ROWS => exact (.cons ⟨⟨_, rfl⟩, rfl⟩ (.cons ⟨⟨_, rfl⟩, rfl⟩ (.cons ⟨⟨_, rfl⟩, rfl⟩ (.cons ⟨⟨_, rfl⟩, rfl⟩ (.cons ⟨⟨_, rfl⟩, rfl⟩ (.cons ⟨⟨_, rfl⟩, rfl⟩ (.cons ⟨⟨_, rfl⟩, rfl⟩ (.cons ⟨⟨_, rfl⟩, rfl⟩ (.cons ⟨⟨_, rfl⟩, rfl⟩ (.cons ⟨⟨_, rfl⟩, rfl⟩ (.cons ⟨⟨_, rfl⟩, rfl⟩ (.cons ⟨⟨_, rfl⟩, rfl⟩ (.cons ⟨⟨_, rfl⟩, rfl⟩ (.cons ⟨⟨_, rfl⟩, rfl⟩ .nil)))))))))))))))
    (case y_CODE_ROWS_put => k_is)
    (case u_CODE_ROWS_put => exact (.cons ⟨_, rfl⟩ (.cons ⟨_, rfl⟩ .nil)))
    (case y_CODE_ROWS_name => k_is)
    (case u_CODE_ROWS_name => exact (.cons ⟨_, rfl⟩ (.cons ⟨_, rfl⟩ .nil)))
    (case y_CODE_ROWS_add => k_is)
    (case u_CODE_ROWS_add => exact (.cons ⟨_, rfl⟩ (.cons ⟨_, rfl⟩ .nil)))
    (case y_CODE_ROWS_take => k_is)
    (case u_CODE_ROWS_take => exact (.cons ⟨_, rfl⟩ (.cons ⟨_, rfl⟩ .nil)))
    (case y_CODE_ROWS_load => k_is)
    (case u_CODE_ROWS_load => exact (.cons ⟨_, rfl⟩ (.cons ⟨_, rfl⟩ (.cons ⟨_, rfl⟩ .nil))))
    (case y_CODE_ROWS_store => k_is)
    (case u_CODE_ROWS_store => exact (.cons ⟨_, rfl⟩ (.cons ⟨_, rfl⟩ (.cons ⟨_, rfl⟩ .nil))))
    (case y_CODE_ROWS_jump => k_is)
    (case u_CODE_ROWS_jump => exact (.cons ⟨_, rfl⟩ .nil))
    (case y_CODE_ROWS_ifzero => k_is)
    (case u_CODE_ROWS_ifzero => exact (.cons ⟨_, rfl⟩ (.cons ⟨_, rfl⟩ .nil)))
    (case y_CODE_ROWS_call => k_is)
    (case u_CODE_ROWS_call => exact (.cons ⟨_, rfl⟩ .nil))
    (case y_CODE_ROWS_callby => k_is)
    (case u_CODE_ROWS_callby => exact (.cons ⟨_, rfl⟩ .nil))
    (case y_CODE_ROWS_back => k_is)
    (case u_CODE_ROWS_back => exact .nil)
    (case y_CODE_ROWS_out => k_is)
    (case u_CODE_ROWS_out => exact (.cons ⟨_, rfl⟩ .nil))
    (case y_CODE_ROWS_halt => k_is)
    (case u_CODE_ROWS_halt => exact .nil)
    (case y_CODE_ROWS_room => k_is)
    (case u_CODE_ROWS_room => exact (.cons ⟨_, rfl⟩ .nil))
    (case dl_DATA_ROWS => k_is)
    (case dk_DATA_ROWS => repeat (first | exact trivial | refine ⟨⟨_, _, rfl, rfl⟩, ?_⟩))
    (case dw_DATA_ROWS => first | rfl | decide +kernel)
    (case pe_DATA_ROWS => exact (.cons ⟨⟨_, rfl⟩, rfl⟩ (.cons ⟨⟨_, rfl⟩, rfl⟩ (.cons ⟨⟨_, rfl⟩, rfl⟩ .nil))))
    (case y_DATA_ROWS_word => k_is)
    (case u_DATA_ROWS_word => exact (.cons ⟨_, rfl⟩ .nil))
    (case y_DATA_ROWS_address => k_is)
    (case u_DATA_ROWS_address => exact (.cons ⟨_, rfl⟩ .nil))
    (case y_DATA_ROWS_room => k_is)
    (case u_DATA_ROWS_room => exact (.cons ⟨_, rfl⟩ .nil))
    (case dl_BOUNDS => k_is)
    (case dk_BOUNDS => repeat (first | exact trivial | refine ⟨⟨_, _, rfl, rfl⟩, ?_⟩))
    (case dw_BOUNDS => first | rfl | decide +kernel)
    (case pe_BOUNDS => exact (.cons ⟨⟨_, rfl⟩, rfl⟩ (.cons ⟨⟨_, rfl⟩, rfl⟩ (.cons ⟨⟨_, rfl⟩, rfl⟩ .nil))))
    (case y_BOUNDS_n => k_is)
    (case u_BOUNDS_n => exact (.cons ⟨_, rfl⟩ (.cons ⟨_, rfl⟩ .nil)))
    (case y_BOUNDS_d => k_is)
    (case u_BOUNDS_d => exact (.cons ⟨_, rfl⟩ (.cons ⟨_, rfl⟩ .nil)))
    (case y_BOUNDS_k => k_is)
    (case u_BOUNDS_k => exact (.cons ⟨_, rfl⟩ (.cons ⟨_, rfl⟩ .nil)))

