import PyProof.Rows.All
import Wide.All
import OpenK.AllK
import Wide.FinOn
import HandS.ForMost
import HandS.Walk
import HandS.IsInst
import HandS.Zip
import HandS.Style
import HandS.Codes
import HandS.Defaults
import HandS.Evl
import HandS.More
import HandS.Strs
import HandS.FStr
import HandS.MakeKw
import HandS.MakeKwOnly
import HandS.OwnEq
import HandS.Property
import HandS.Star
import HandS.RaiseMore
import HandS.StrMore
import HandS.Text
import KE.GoesEnum
import KE.GoesMore
import KE.RegKIsAll
import KE.IntTextText
import KE.KIntText
import KE.OsScanText
import PySem.Challenge.RW_leastimage_k04_pieces_told
set_option Elab.async false
set_option maxRecDepth 100000
set_option maxHeartbeats 4000000
set_option linter.all false
namespace Kk
open PySem L2 PyProof.Rows
/-! ### enumerate of a list or a tuple -/
set_option maxHeartbeats 4000000 in
theorem enum_new_any {v : Value} {ob : Obj} {St : Heap → Prop} (B : Begins v ob St) :
    Meets (Builtin.«enumerate.__new__» ⟨[.type "enumerate", v], []⟩) (fun _ R s => St s.heap ∧ R (.ok (.ret (.ref (s.heap.push ob).objs.size)))
      { s with heap := (s.heap.push ob).push { cls := .type "enumerate", data := .fields #[.none, .bool false, .ref s.heap.objs.size, rawInt 0, .none, .none] } }) :=
  .of_wp fun P w A R s hs => by
    obtain ⟨hp, gg, dd, tt, oo⟩ := s
    obtain ⟨k1, k2⟩ := hs
    have sube := sub_enumerate
    have it : ∀ {A' : Around} {E' : Value → Shared → Prop} {Q' : Value → Shared → Prop}, Q' (.ref hp.objs.size) ⟨hp.push ob, gg, dd, tt, oo⟩ → wpAny (model P w) A' (pyIter v) Q' E' ⟨hp, gg, dd, tt, oo⟩ := fun q => B.iter _ _ _ _ ⟨hp, gg, dd, tt, oo⟩ _ k1 q
    wp_walk using it
    refine wpAny_stack_any fun _ => wpAny_pure ?_
    split
    · rename_i c _ _ _ _ _
      cases (c == Value.type "enumerate")
      · (wp_walk using it); exact ⟨_, rfl, k2⟩
      · (wp_walk using it); exact ⟨_, rfl, k2⟩
    · (wp_walk using it); exact ⟨_, rfl, k2⟩
theorem call_enum_any {P : Program} {w : World} {A : Around} {E : Value → Shared → Prop} {s : Shared} {v : Value} {ob : Obj} {St : Heap → Prop} {Q : Value → Shared → Prop} (B : Begins v ob St) (hs : St s.heap)
    (k : ∀ h', IsEnum h' (s.heap.objs.size + 1) s.heap.objs.size 0 .none → h'.get? s.heap.objs.size = some ob → (∀ b o, s.heap.get? b = some o → h'.get? b = some o) → Q (.ref (s.heap.objs.size + 1)) { s with heap := h' }) :
    wpAny (model P w) A (call (.type "enumerate") [v]) Q E s := by
  have z : (s.heap.push ob).objs.size = s.heap.objs.size + 1 := Heap.size_push ..
  refine callType_new PySem.F.called_enumerate (by decide) (PySem.F.typeCall_enumerate_1 _) (PySem.F.newCall_enumerate_1 _) (fun q => PySem.F.args_object_init_2 q _) PySem.F.entry_enumerate_new (enum_new_any B) ⟨hs, ?_⟩
  have e : IsEnum ((s.heap.push ob).push { cls := .type "enumerate", data := .fields #[.none, .bool false, .ref s.heap.objs.size, rawInt 0, .none, .none] }) (s.heap.objs.size + 1) s.heap.objs.size 0 .none := by
    have q := Heap.get?_push_size (s.heap.push ob) (o := { cls := .type "enumerate", data := .fields #[.none, .bool false, .ref s.heap.objs.size, rawInt 0, .none, .none] }) rfl
    rw [z] at q
    exact q
  show _ ∧ _
  rw [z]
  exact ⟨⟨_, e, rfl⟩, k _ e (Heap.get?_push_of_some _ (Heap.get?_push_size _ B.free)) fun b o x => Heap.get?_push_of_some _ (Heap.get?_push_of_some _ x)⟩
theorem enum_endT {P : Program} {w : World} {A : Around} {E : Value → Shared → Prop} {s : Shared} {e it a : Addr} {i : Nat} {xs : Array Value} {old : Value} {Q : Option Value → Shared → Prop} (hh : A.handled = none)
    (he : IsEnum s.heap e it i old) (hit : s.heap.IsTupleIter it a i) (ht : s.heap.IsTuple a xs) (hx : xs[i]? = none) (k : ∀ h', Heap.ExtBut it s.heap h' → Q none { s with heap := h' }) : wpAny (model P w) A (pyNext (.ref e)) Q E s := by
  have ty : s.TypeIs (.ref e) "enumerate" := ⟨_, he, rfl⟩
  unfold pyNext
  refine wpAny_bind (wpAny_attempt (wpAny_callSpecial?_slot (name := Str.ofString "__next__") ty PySem.F.slot_enumerate_next
    (wpAny_call_entry PySem.F.slot_enumerate_next ty PySem.F.entry_enumerate_next ?_ (PySem.F.args_enumerate_next_1 _))))
  show wpAny _ _ (PySem.field (.ref e) 2 >>= _) _ _ _
  refine wpAny_bind (wpAny_field he rfl (x := .ref it) rfl (wpAny_bind (wpAny_nextOf_tuple_end hh hit ht hx fun h' x he' hx' => ?_)))
  obtain ⟨o, ho, hc⟩ := hx'
  exact wpAny_bind (wpAny_isInstance (T := "StopIteration") (b := true) ⟨o, ho, hc⟩ isSubtype_stop (wpAny_pure (k _ he')))
/-- the tuple at a, each item in a new pair -/
def IteT (K : PySem.W.Frag) (a : Addr) : It :=
  ⟨fun i H => ∃ (xs : List V) (x : V), SqT K H a xs ∧ xs[i]? = some x,
    fun i H v H' => ∃ T x, v = .ref T ∧ H T = none ∧ H' = upd H T (.tup [.int (i : Nat), x]) ∧ ∀ xs, SqT K H a xs → xs[i]? = some x,
    fun i H => ∃ xs : List V, SqT K H a xs ∧ xs.length ≤ i⟩
theorem turn_enumT {P : Program} {w : World} {K : PySem.W.Frag} {elts : List Expr} {kk : Nat} {tpos : Pos} (a e it : Addr) :
    Turn P w K (.Tuple elts kk tpos) (IteT K a) [e, it] e (fun i h => (∃ old, IsEnum h e it ((i : Nat) : Int) old) ∧ h.IsTupleIter it a i ∧ e ≠ it ∧ a ≠ it ∧ a ≠ e) where
  mem := by simp
  obj := fun i h st b hb => by
    obtain ⟨⟨old, he⟩, ⟨o, ho, hc, hd⟩, _⟩ := st
    rcases (show b = e ∨ b = it by simpa using hb) with rfl | rfl
    · exact ⟨_, he, fun v q => nomatch q⟩
    · exact ⟨o, ho, fun v q => by rw [hd] at q; cases q⟩
  keep := fun i h h' st k => let ⟨⟨old, he⟩, hi, n⟩ := st; ⟨⟨old, k e (by simp) _ he⟩, hi.at fun o q => k it (by simp) o q, n⟩
  item := by
    intro X hP hw hK hc i pins s σ H E I hf st hg
    subst hP hw hK
    obtain ⟨⟨old, he⟩, hit, hne, hai, hae⟩ := st
    obtain ⟨xs, x, hq, hx⟩ := hg
    obtain ⟨its, rv, p, hz⟩ := I.tuple hq
    obtain ⟨u, hu, ru⟩ := rv.get hx
    have le : e < s.heap.objs.size := Heap.lt_size he
    have li : it < s.heap.objs.size := let ⟨_, q, _⟩ := hit; Heap.lt_size q
    have hlt : i < its.toArray.size := by
      have := (List.getElem?_eq_some_iff.mp hu).1
      simpa using this
    refine wpAny_pyNext_enum_itemD (Draws.tuple (A := X.A.in1) (show X.A.in1.handled = none from I.ok.hd hc) it a hai its.toArray) he ⟨hit, p⟩ hlt hne (by simp [hne, Ne.symm hae]) fun x' h' tk hP ho st' hT hsz hk => ?_
    obtain rfl : x' = u := by
      have q : its.toArray[i]? = some u := by simpa using hu
      rw [q] at hP
      exact (Option.some.inj hP).symm
    refine ⟨_, rfl, wpAny_letOwnedTupleGo_enum (s := { s with heap := h', toks := tk + 1 }) ho fun h'' he' sb => ?_⟩
    have hT2 : h''.get? s.heap.objs.size = some { cls := .type "tuple", data := .seq #[.int i tk, x'] } := (sb.2 _ (Nat.ne_of_gt le)).trans hT
    have new : ObjOk X.prog X.w (upd H s.heap.objs.size (.tup [.int (i : Nat), x])) h'' s.heap.objs.size (.tup [.int (i : Nat), x]) :=
      ⟨(by show 2 ≤ sizeLine; decide), [.int i tk, x'], .cons ⟨_, rfl⟩ (.cons ru .nil), ⟨_, hT2, rfl, _, rfl⟩⟩
    have I1 : Inv X pins σ (upd H s.heap.objs.size (.tup [.int (i : Nat), x])) { s with heap := h'', toks := tk + 1 } :=
      I.turnedNew (t' := tk + 1) (ch := [e, it]) (fun b ob hb q => (sb.2 b (fun z => hb (by rw [z]; simp))).trans (hk b ob (fun z => hb (by rw [z]; simp)) (fun z => hb (by rw [z]; simp)) q)) hf (Nat.le_refl _) new
    refine ⟨.ref s.heap.objs.size, _, I1, rfl, ⟨_, x, rfl, I.hok.fresh (Nat.le_refl _), rfl, fun ys hy => by rw [I.tuple_inj hy hq]; exact hx⟩, ⟨⟨x', ?_⟩, st'.1.at fun o q => (sb.2 it (Ne.symm hne)).trans q, hne, hai, hae⟩, fun b hb => ?_⟩
    · rw [show ((i + 1 : Nat) : Int) = (i : Int) + 1 by omega]
      exact he'
    · have hb' : b < s.heap.objs.size := by
        rcases (show b = e ∨ b = it by simpa using hb) with z | z
        · rw [z]; exact le
        · rw [z]; exact li
      rw [upd_ne (Nat.ne_of_lt hb')]
      exact (hf b hb).1
  done := by
    intro X hP hw hK hc i pins s σ H E I hf st hg
    subst hP hw hK
    obtain ⟨⟨old, he⟩, hit, hne, hai, hae⟩ := st
    obtain ⟨xs, hq, hx⟩ := hg
    obtain ⟨its, rv, p, hz⟩ := I.tuple hq
    obtain ⟨f0, f1, f2, f3, f4, f5⟩ := hf it (by simp)
    have hl := rv.length
    exact enum_endT (I.ok.hd hc) he hit p (by simp; omega) fun h' eb => ⟨rfl, I.turned (t' := s.toks) (fun b o hb q => eb b o hb q) f0 f1 f3 f4 f5⟩
  self := fun A i s Q E st h => let ⟨⟨_, he⟩, _⟩ := st; wpAny_pyIter_enum he h
/-- enumerate(e), e a list or a tuple -/
def iEnumA (K : PySem.W.Frag) (ta : TA) : TI := fun σ H R => ta σ H fun vs H1 => ∃ a xs, vs = [.ref a] ∧ ((SqL K H1 a xs ∧ R (Ite K a) H1) ∨ (SqT K H1 a xs ∧ R (IteT K a) H1))
theorem pi_enumA {X : Cx} {e : Expr} {ta : TA} {p pos tpos : Pos} {elts : List Expr} {kk : Nat} (hg : Gl X "enumerate") (hm : X.mg "enumerate" = none) (ha : PA X [e] ta) (hs : starEach [e] X.env = [(false, eval e X.env)] := by rfl) :
    PI X (.Tuple elts kk tpos) (.Call (.Name "enumerate" p) [e] [] pos) (iEnumA X.K ta) := by
  refine ⟨fun pins s σ H R I h => ?_⟩
  refine Call_ (ld_blt I hg hm boot_enumerate (PyProof.Rows.callWith_type1 (thn (ha.run pos pins s σ H _ I h) fun us s1 ⟨vs, H1, I1, r1, a, xs, ex, q1⟩ => ?_) hs rfl))
  subst ex
  cases r1 with
  | cons r rr =>
    cases rr
    cases r
    have isn : ∀ b ∈ [s1.heap.objs.size + 1, s1.heap.objs.size], s1.heap.objs.size ≤ b := fun b hb => by
      rcases (show b = s1.heap.objs.size + 1 ∨ b = s1.heap.objs.size by simpa using hb) with z | z
      · rw [z]; exact Nat.le_add_right _ _
      · rw [z]; exact Nat.le_refl _
    rcases q1 with ⟨hq, q⟩ | ⟨hq, q⟩
    · obtain ⟨its, rv, p', hz⟩ := I1.list hq
      refine call_enumerate_list p'.isList fun h' he hit hsz hk => wpAny_pyIter_enum he ?_
      have I2 : Inv X pins σ H1 { s1 with heap := h' } := I1.kept (t' := s1.toks) hk
      exact ⟨s1.heap.objs.size + 1, [s1.heap.objs.size + 1, s1.heap.objs.size], _, _, H1, rfl, I2, turn_enum a (s1.heap.objs.size + 1) s1.heap.objs.size, ⟨⟨.none, he⟩, hit, Nat.succ_ne_self _⟩, fun b hb => I1.fpOk (isn b hb) (I1.hok.fresh (isn b hb)), q⟩
    · obtain ⟨its, rv, p', hz⟩ := I1.tuple hq
      have la : a < s1.heap.objs.size := by obtain ⟨o, e, _⟩ := p'; exact Heap.lt_size e
      refine call_enum_any (begins_tuple a its.toArray) p' fun h' he hit hk => wpAny_pyIter_enum he ?_
      have I2 : Inv X pins σ H1 { s1 with heap := h' } := I1.kept (t' := s1.toks) hk
      exact ⟨s1.heap.objs.size + 1, [s1.heap.objs.size + 1, s1.heap.objs.size], _, _, H1, rfl, I2, turn_enumT a (s1.heap.objs.size + 1) s1.heap.objs.size, ⟨⟨.none, he⟩, ⟨_, hit, rfl, rfl⟩, Nat.succ_ne_self _, Nat.ne_of_lt la, Nat.ne_of_lt (Nat.lt_succ_of_lt la)⟩, fun b hb => I1.fpOk (isn b hb) (I1.hok.fresh (isn b hb)), q⟩
theorem walk_enumT {K : PySem.W.Frag} {a : Addr} {xs : List V} : Walk (IteT K a) xs.length (fun H => SqT K H a xs) (YPair (fun i => some (.int (i : Nat))) (fun i => xs[i]?)) := by
  refine ⟨fun i _ hi q => ⟨xs, xs[i], q, List.getElem?_eq_getElem hi⟩, fun _ q => ⟨xs, q, Nat.le_refl _⟩, fun i H v H' _ q y => ?_⟩
  obtain ⟨T, x, h1, h2, h3, h4⟩ := y
  exact ⟨T, .int (i : Nat), x, h1, h2, h3, rfl, h4 xs q⟩
/-! ### a call below the running body; len, bool, repr, == and != by the text's own methods -/
theorem tyx_looks {X : Cx} {pins : List (Addr × Obj)} {σ : L2.St} {H : Hp} {s : Shared} {y : V} {v t : Value} (I : Inv X pins σ H s) (ry : RelV y v) (ty : TyX X.K H y t) : PySem.W.Looks (model X.prog X.w) s.heap (typeOf v) t :=
  let ⟨_, Z, p, _⟩ := kit_of I ry ty; Z.ty _ _ I.kIn p
section
variable {X : Cx} {CX : CXT} {n : Nat} {f C : Addr} {fd : FuncData} {ps : List Str} {sp : Sp} {E : XK}
theorem run_at (F : FnOk X.prog X.w X.K X.mg X.base CX n f fd ps sp) (hb : Binds X.K fd ps []) (hx : Passes CX X E) {A : Around} (sb : Sub X n A) {pins : List (Addr × Obj)} {σ : L2.St} {H : Hp} {s : Shared} {us : List Value} {vs : List V} {Q : VK} (I : Inv X pins σ H s) (r : Vals vs us) (h : sp vs H Q E) :
    wpAny (model X.prog X.w) A (call (.ref f) us) (EP X pins σ Q) X.xe s := by
  have e0 : Env0 X.prog X.w X.K X.mg X.base A X.stack s H :=
    let e := I.env0
    ⟨by rw [sb.fr]; exact e.frames, e.mod, e.bs, e.bsz, e.funs, e.frf, e.hok, e.bare⟩
  have hl : (us ++ ([] : List Value)).length = ps.length := by
    rw [List.append_nil, ← r.length]
    exact F.len _ _ _ _ h
  have bd := hb s us I.kIn hl
  rw [List.append_nil] at bd
  refine wpAny_call (codeAny_mono (F.run A X.stack s H ⟨us, []⟩ us vs Q E sb.room e0 bd r h) fun r s' hq => ?_)
  cases r with
  | error e => exact hx pins σ H s e s' I hq
  | ok fl => cases fl <;> first | exact I.after hq | exact False.elim hq
/-- a special method of the class at C is the def at f -/
def Spc (K : PySem.W.Frag) (C : Addr) (m : Str) (f : Addr) : Prop := PySem.W.findIn K (.ref C) m = some (some (.ref f)) ∧ PySem.W.isFn K (.ref f) = true
theorem call_lenO (F : FnOk X.prog X.w X.K X.mg X.base CX n f fd ps sp) (hr : Room (n + 1) X.A) (hs : Spc X.K C "__len__" f) (hb : Binds X.K fd ps []) (hx : Passes CX X E) :
    CallR X (.builtin "len") (fun xs H Q => ∃ a dx fs, xs = [.ref a] ∧ H a = some (.ins C dx fs) ∧ sp [.ref a] H (fun v H' => ∃ i : Int, v = .int i ∧ 0 ≤ i ∧ i < 2 ^ 63 ∧ Q (.int i) H') E) := by
  intro pins s σ H xs us Q I r h
  obtain ⟨a, dx, fs, rfl, ea, q⟩ := h
  obtain ⟨u, rfl, ru⟩ := vals1 r
  cases ru
  obtain ⟨mA, J, _⟩ := ins_get I.hok ea
  obtain ⟨od, J, _⟩ := J.look
  obtain ⟨m, hF⟩ := I.fr
  refine PySem.W.len_K hF I.ok.mod.kin J hs.1 hs.2 (wpAny_mono (run_at F hb hx (⟨hr, rfl⟩ : Sub X (n + 1) X.A).in1 I r q) (fun v s' z => ?_) fun _ _ x => x)
  obtain ⟨v', H', I', rv, i, rfl, h0, h1, q'⟩ := z
  obtain ⟨t, rfl⟩ := rv
  exact ⟨⟨h0, h1⟩, .int i, H', I'.tok _, ⟨_, rfl⟩, q'⟩
theorem call_reprO (F : FnOk X.prog X.w X.K X.mg X.base CX n f fd ps sp) (hr : Room (n + 1) X.A) (hs : Spc X.K C "__repr__" f) (hb : Binds X.K fd ps []) (hx : Passes CX X E) :
    CallR X (.builtin "repr") (fun xs H Q => ∃ a dx fs, xs = [.ref a] ∧ H a = some (.ins C dx fs) ∧ sp [.ref a] H (fun v H' => ∃ z : Str, v = .str z ∧ Q (.str z) H') E) := by
  intro pins s σ H xs us Q I r h
  obtain ⟨a, dx, fs, rfl, ea, q⟩ := h
  obtain ⟨u, rfl, ru⟩ := vals1 r
  cases ru
  obtain ⟨mA, J, _⟩ := ins_get I.hok ea
  obtain ⟨od, J, _⟩ := J.look
  obtain ⟨m, hF⟩ := I.fr
  refine PySem.W.repr_K (hu_of hr) hF I.ok.mod.kin J hs.1 hs.2 (wpAny_mono (run_at F hb hx (⟨hr, rfl⟩ : Sub X (n + 1) X.A).in1 I r q) (fun v s' z => ?_) fun _ _ x => x)
  obtain ⟨v', H', I', rv, i, rfl, q'⟩ := z
  obtain ⟨t, rfl⟩ := rv
  exact ⟨.str i, H', I', ⟨_, rfl⟩, q'⟩
theorem bool_newIn {P : Program} {w : World} {x : Value} : MeetsIn P w (Builtin.«bool.__new__» ⟨[.type "bool", x], []⟩)
    (fun A R s => wpAny (model P w) A.in1 (truthy x) (fun b s' => R (.ok (.ret (.bool b))) s') (fun e s' => R (.error e) s') s) :=
  MeetsIn.of_wp fun A R s hs => by
    have f1 := PySem.F.conv_sub_bool
    obtain ⟨hp, g, d, tk, os⟩ := s
    repeat (any_goals (first | assumption | wp_step))
    exact wpAny_mono hs (fun b s' q => wpAny_pure ⟨_, rfl, q⟩) fun _ _ x => x
theorem call_boolO (F : FnOk X.prog X.w X.K X.mg X.base CX n f fd ps sp) (hr : Room (n + 2) X.A) (hs : Spc X.K C "__bool__" f) (hb : Binds X.K fd ps []) (hx : Passes CX X E) :
    CallR X (.type "bool") (fun xs H Q => ∃ a dx fs, xs = [.ref a] ∧ H a = some (.ins C dx fs) ∧ sp [.ref a] H (fun v H' => ∃ k : Bool, v = .bl k ∧ Q (.bl k) H') E) := by
  intro pins s σ H xs us Q I r h
  obtain ⟨a, dx, fs, rfl, ea, q⟩ := h
  obtain ⟨u, rfl, ru⟩ := vals1 r
  cases ru
  obtain ⟨mA, J, _⟩ := ins_get I.hok ea
  obtain ⟨od, J, _⟩ := J.look
  obtain ⟨m, hF⟩ := I.fr
  refine callType_newIn PySem.F.called_bool PySem.F.newNe_bool (PySem.F.typeCall_bool_1 _) (PySem.F.newCall_bool_1 _) (fun o => PySem.F.args_object_init_2 o _) PySem.F.entry_bool_new bool_newIn ?_
  refine PySem.W.truthy_K hF I.ok.mod.kin J hs.1 hs.2 (wpAny_mono (run_at F hb hx ((⟨hr, rfl⟩ : Sub X (n + 2) X.A).in1).in1 I r q) (fun v s' z => ?_) fun _ _ x => x)
  obtain ⟨v', H', I', rv, k, rfl, q'⟩ := z
  cases rv
  exact ⟨rfl, .bl k, H', I', rfl, q'⟩
/-- what stands on the right of an own ==: its type, as the class sees it -/
def RhsT (K : PySem.W.Frag) (C : Addr) (H : Hp) (y : V) : Prop := ∃ t, TyX K H y t ∧ PySem.W.notFirst K C t = true
theorem op_eqO (F : FnOk X.prog X.w X.K X.mg X.base CX n f fd ps sp) (hr : Room n X.A) (hs : Spc X.K C "__eq__" f) (hb : Binds X.K fd ps []) (hx : Passes CX X E) :
    OpR X (compareOp .Eq) (fun x y H Q => ∃ a dx fs, x = .ref a ∧ H a = some (.ins C dx fs) ∧ RhsT X.K C H y ∧ sp [.ref a, y] H (fun v H' => ∃ k : Bool, v = .bl k ∧ Q (.bl k) H') E) := by
  intro pins s σ H x y u v Q I rx ry h
  obtain ⟨a, dx, fs, rfl, ea, ⟨t, ty, nf⟩, q⟩ := h
  cases rx
  obtain ⟨mA, J, _⟩ := ins_get I.hok ea
  obtain ⟨od, J, _⟩ := J.look
  obtain ⟨m, hF⟩ := I.fr
  show wpAny (model X.prog X.w) X.A (richCompare .Eq (.ref a) v) (EP X pins σ Q) X.xe s
  refine PySem.W.cmp_K (op := .Eq) (tb := t) hr.units0 hF I.ok.mod.kin J (tyx_looks I ry ty) nf hs.1 hs.2 (wpAny_mono (run_at F hb hx (⟨hr, rfl⟩ : Sub X n X.A) I (show Vals [V.ref a, y] [Value.ref a, v] from .cons rfl (.cons ry .nil)) q) (fun v s' z => ?_) fun _ _ x => x)
  obtain ⟨v', H', I', rv, k, rfl, q'⟩ := z
  cases rv
  exact ⟨.bl k, H', I', rfl, q'⟩
/-- != of a class that has no __ne__ of its own -/
theorem op_neO (F : FnOk X.prog X.w X.K X.mg X.base CX n f fd ps sp) (hr : Room (n + 2) X.A) (hs : Spc X.K C "__eq__" f) (hn : PySem.W.findIn X.K (.ref C) "__ne__" = some (some (.builtin "object.__ne__"))) (hm : PySem.W.mroIn X.K C (.type "object") = some true) (hb : Binds X.K fd ps []) (hx : Passes CX X E) :
    OpR X (compareOp .NotEq) (fun x y H Q => ∃ a dx fs, x = .ref a ∧ H a = some (.ins C dx fs) ∧ RhsT X.K C H y ∧ sp [.ref a, y] H (fun v H' => ∃ k : Bool, v = .bl k ∧ Q (.bl (!k)) H') E) := by
  intro pins s σ H x y u v Q I rx ry h
  obtain ⟨a, dx, fs, rfl, ea, ⟨t, ty, nf⟩, q⟩ := h
  cases rx
  obtain ⟨mA, J, _⟩ := ins_get I.hok ea
  obtain ⟨od, J, _⟩ := J.look
  obtain ⟨m, hF⟩ := I.fr
  have lk := tyx_looks I ry ty
  have sub : PySem.W.Looks (model X.prog X.w) s.heap (isInstance (.ref a) (.type "object")) true := J.type.andThen (PySem.W.looks_mroIn I.kIn hm)
  -- the body of object.__ne__
  have own : wpAny (model X.prog X.w) X.A (call (.builtin "object.__ne__") [.ref a, v]) (fun u s' => ∃ k : Bool, u = .bool k ∧ EP X pins σ Q (.bool k) s') X.xe s := by
    refine wpAny_call (codeAny_call_builtin PySem.F.cmp_object.ne.plain PySem.F.cmpEntry_ne (PySem.W.check_slot PySem.F.cmpKind_ne PySem.F.cmpSplit_ne sub (PySem.F.cmpArgs_ne _ _) ?_))
    have hu1 : X.A.in1.units < cLine := hu_of hr
    have eqc : wpAny (model X.prog X.w) X.A.in1 (callSpecialIfBound? (.ref a) "__eq__" [v]) (fun r s' => ∃ k : Bool, r = some (.bool k) ∧ EP X pins σ Q (.bool (!k)) s') X.xe s := by
      refine PySem.W.ifBound_K I.kIn J hs.1 hs.2 (wpAny_mono (run_at F hb hx ((⟨hr.mono (Nat.le_succ _), rfl⟩ : Sub X (n + 1) X.A).in1) I (show Vals [V.ref a, y] [Value.ref a, v] from .cons rfl (.cons ry .nil)) q) (fun w s' z => ?_) fun _ _ x => x)
      obtain ⟨v', H', I', rv, k, rfl, q'⟩ := z
      cases rv
      exact ⟨k, rfl, .bl (!k), H', I', rfl, q'⟩
    unfold Builtin.«object.__ne__»
    repeat (first
      | with_reducible refine wpAny_cRoomFor hu1 ?_
      | (refine wpAny_bind (m := callSpecialIfBound? (.ref a) (Str.ofString "__eq__") [v]) (wpAny_mono eqc (fun r s' z => ?_) fun _ _ x => x)
         obtain ⟨k, rfl, z⟩ := z
         repeat (first | (refine wpAny_bind (m := truthy (.bool _)) (wpAny_truthy_bool ?_)) | wp_step))
      | wp_step)
    all_goals exact ⟨_, rfl, z⟩
  have bn := PySem.F.cmp_object.ne.bind (Value.ref a)
  have fin : ∀ s', s' = s → wpAny (model X.prog X.w) X.A (call (.builtin "object.__ne__") ([.ref a] ++ [v]) >>= fun r => pure (some r)) (fun r s' => ∃ k : Bool, r = some (.bool k) ∧ EP X pins σ Q (.bool k) s') X.xe s' := fun s' e => by
    rw [e]
    refine wpAny_bind (wpAny_mono own (fun r s' z => ?_) fun _ _ x => x)
    obtain ⟨k, rfl, z⟩ := z
    exact wpAny_pure ⟨k, rfl, z⟩
  have isb : wpAny (model X.prog X.w) X.A (callSpecialIfBound? (.ref a) "__ne__" [v]) (fun r s' => ∃ k : Bool, r = some (.bool k) ∧ EP X pins σ Q (.bool k) s') X.xe s := by
    simp only [callSpecialIfBound?, bindSpecialIfBound?]
    refine wpAny_holding ?_
    refine wpAny_bind (wpAny_bind (wpAny_bind (J.type.here ?_)))
    refine (PySem.W.looks_findIn I.kIn hn).here ?_
    refine wpAny_bind (wpAny_askSetting (wpAny_ite ?_))
    split
    · exact wpAny_bind (wpAny_of_eq bn (wpAny_pure (fin s rfl)))
    · exact wpAny_tryCatch (wpAny_bind (wpAny_of_eq bn (wpAny_pure (fin s rfl))))
  have one : wpAny (model X.prog X.w) X.A (tryCompare (.ref a) "__ne__" v) (fun r s' => ∃ z, r = some z ∧ EP X pins σ Q z s') X.xe s := by
    unfold tryCompare
    refine wpAny_bind (wpAny_mono isb (fun r s' z => ?_) fun _ _ x => x)
    obtain ⟨k, rfl, z⟩ := z
    exact wpAny_pure ⟨_, rfl, z⟩
  have last : wpAny (model X.prog X.w) X.A (tryCompare (.ref a) "__ne__" v >>= fun r => match r with | some z => pure z | x => unsupported "") (EP X pins σ Q) X.xe s := by
    refine wpAny_bind (wpAny_mono one (fun r s' z => ?_) fun _ _ x => x)
    obtain ⟨z, rfl, hq⟩ := z
    exact wpAny_pure hq
  show wpAny (model X.prog X.w) X.A (richCompare .NotEq (.ref a) v) (EP X pins σ Q) X.xe s
  unfold richCompare
  simp only [oneThing_ref]
  refine wpAny_holding ?_
  refine wpAny_bind (wpAny_cRoomFor hr.units0 ?_)
  refine wpAny_bind (J.type.here ?_)
  refine wpAny_bind (lk.here ?_)
  have tail : ∀ {k : Option Value → Sem Value}, (∀ z, k (some z) = pure z) → wpAny (model X.prog X.w) X.A (tryCompare (.ref a) "__ne__" v >>= k) (EP X pins σ Q) X.xe s := fun {k} e => by
    refine wpAny_bind (wpAny_mono one (fun r s' z => ?_) fun _ _ x => x)
    obtain ⟨z, rfl, hq⟩ := z
    rw [e]
    exact wpAny_pure hq
  split
  · rename_i dif
    have e : PySem.W.subIn X.K t (.ref C) = some false := by
      rcases Bool.or_eq_true_iff.mp nf with e | e
      · rw [beq_iff_eq.mp e] at dif
        simp at dif
      · exact beq_iff_eq.mp e
    refine wpAny_bind ((PySem.W.looks_subIn I.kIn e).here ?_)
    exact tail fun z => rfl
  · exact wpAny_bind (wpAny_pure (tail fun z => rfl))
end
/-! ### isinstance of an own class -/
def six : List String := ["NoneType", "bool", "int", "str", "list", "tuple"]
structure IsK (K : PySem.W.Frag) (C : Addr) : Prop where
  ins : C8.InsC K C
  no : ∀ t ∈ six, PySem.W.kitOne K (.type t) (.ref C) = some false
  ne : PySem.W.findIn K (.ref C) "__ne__" = some (some (.builtin "object.__ne__"))
theorem isk_six {K : PySem.W.Frag} {C : Addr} (a : PySem.W.kitOne K (.type "NoneType") (.ref C) = some false) (b : PySem.W.kitOne K (.type "bool") (.ref C) = some false) (c : PySem.W.kitOne K (.type "int") (.ref C) = some false) (d : PySem.W.kitOne K (.type "str") (.ref C) = some false) (e : PySem.W.kitOne K (.type "list") (.ref C) = some false) (f : PySem.W.kitOne K (.type "tuple") (.ref C) = some false) : ∀ t ∈ six, PySem.W.kitOne K (.type t) (.ref C) = some false := by
  intro t m
  simp only [six, List.mem_cons, List.not_mem_nil, or_false] at m
  rcases m with rfl | rfl | rfl | rfl | rfl | rfl <;> assumption
theorem notFirst_of {K : PySem.W.Frag} {C : Addr} {t : String} (h : PySem.W.kitOne K (.type t) (.ref C) = some false) : PySem.W.notFirst K C (.type t) = true := by
  unfold PySem.W.kitOne at h
  split at h
  · cases h
  · unfold PySem.W.kitCls at h
    dsimp only at h
    split at h
    · unfold PySem.W.notFirst
      rw [h]
      simp
    · cases h
theorem TyX.insK {K : PySem.W.Frag} {C a dx : Addr} {H : Hp} {fs : List (Str × V)} (I : IsK K C) (e : H a = some (.ins C dx fs)) : TyX K H (.ref a) (.ref C) := .base (.ins e I.ins.cl I.ins.ha I.ins.hn I.ins.htk I.ins.hm)
theorem RhsT.ins {K : PySem.W.Frag} {C a dx : Addr} {H : Hp} {fs : List (Str × V)} (I : IsK K C) (e : H a = some (.ins C dx fs)) : RhsT K C H (.ref a) := ⟨_, TyX.insK I e, by unfold PySem.W.notFirst; rw [beq_self_eq_true]; rfl⟩
theorem RhsT.six {K : PySem.W.Frag} {C : Addr} {H : Hp} {y : V} {t : String} (I : IsK K C) (m : t ∈ six) (ty : TyX K H y (.type t)) : RhsT K C H y := ⟨_, ty, notFirst_of (I.no t m)⟩
/-- keyword defaults, one by one -/
theorem kwmem1 {K : PySem.W.Frag} {D : Addr} {q : Str × V} {l : List (Str × V)} (h : ∃ u, PySem.W.nsIn K D q.1 = some (some u) ∧ RelV q.2 u) (t : ∀ q ∈ l, ∃ u, PySem.W.nsIn K D q.1 = some (some u) ∧ RelV q.2 u) : ∀ p ∈ q :: l, ∃ u, PySem.W.nsIn K D p.1 = some (some u) ∧ RelV p.2 u := fun p m => by
  rcases List.mem_cons.mp m with e | m
  · rw [e]; exact h
  · exact t p m
theorem kwmem0 {K : PySem.W.Frag} {D : Addr} : ∀ q ∈ ([] : List (Str × V)), ∃ u, PySem.W.nsIn K D q.1 = some (some u) ∧ RelV q.2 u := fun _ m => nomatch m

/-! ### the text by places, what the top has written -/
/-- a table of the text: the first entry of a word -/
def findT {α : Type} (l : List (Str × α)) (z : Str) : Option α := (l.find? fun p => decide (p.1 = z)).map (·.2)
def RelOpt {α : Type} (R : α → Value → Prop) : Option α → Option Value → Prop
  | some x, some u => R x u
  | none, none => True
  | _, _ => False
def RelTu (K : PySem.W.Frag) (xs : List V) (u : Value) : Prop := ∃ t, u = .ref t ∧ ∀ H : Hp, SqT K H t xs
theorem find_rel {α : Type} {R : α → Value → Prop} : ∀ {l : List (Str × α)} {m : List (Str × Value)}, Paired (fun (p : Str × α) (q : Str × Value) => p.1 = q.1 ∧ R p.2 q.2) l m → ∀ z, RelOpt R (findT l z) (findT m z)
  | _, _, .nil, _ => trivial
  | p :: l, q :: m, .cons r t, z => by
    unfold findT
    rw [List.find?_cons, List.find?_cons, ← r.1]
    cases decide (p.1 = z) with
    | true => exact r.2
    | false => exact find_rel t z
theorem nsIn_of {K : PySem.W.Frag} {c : Addr} {ty : Value} {dd : Option Addr} {es : Array DictEntry} {n : Nat} {sl : Array (Option Value)} (h : K.lookup c = some ⟨ty, dd, .dict es n, sl⟩) {L : List (Str × Value)}
    (e : Paired (fun (d : DictEntry) (p : Str × Value) => (∃ t, d.key = .str p.1 t) ∧ d.val = p.2) es.toList L) (z : Str) : PySem.W.nsIn K c z = some (findT L z) := by
  unfold PySem.W.nsIn
  rw [h]
  dsimp only
  have k : ∀ (l : List DictEntry) (L : List (Str × Value)), Paired (fun (d : DictEntry) (p : Str × Value) => (∃ t, d.key = .str p.1 t) ∧ d.val = p.2) l L → (l.find? (·.key.isStr z)).map (·.val) = findT L z ∧ l.any (·.refKey) = false := by
    intro l L e
    induction e with
    | nil => exact ⟨rfl, rfl⟩
    | @cons d p l L r _ ih =>
      obtain ⟨⟨t, hk⟩, hv⟩ := r
      have e1 : d.key.isStr z = decide (p.1 = z) := by
        rw [hk]
        show (p.1 == z) = decide (p.1 = z)
        rw [Bool.eq_iff_iff]
        simp
      have e2 : d.refKey = false := by
        unfold DictEntry.refKey
        rw [hk]
      refine ⟨?_, by rw [List.any_cons, e2, ih.2]; rfl⟩
      unfold findT at ih ⊢
      rw [List.find?_cons, List.find?_cons, e1]
      cases decide (p.1 = z) with
      | true => exact congrArg some hv
      | false => exact ih.1
  obtain ⟨k1, k2⟩ := k _ _ e
  cases q : es.toList.find? (·.key.isStr z) with
  | some d =>
    rw [q] at k1
    rw [← k1]
    rfl
  | none =>
    rw [q] at k1
    rw [← k1]
    simp [k2]
def top (i : Nat) : Stmt := PySem.Challenge.pw_leastimage_k04_pieces_told.main.body.getD i (.Pass ⟨0, 0, 0, 0⟩)
abbrev s_is_name : Stmt := top 12
abbrev N_is_name : List Str := ["value", "letter"]
theorem sc_is_name : FnScope N_is_name ["value"] (defScope s_is_name) := ⟨rfl, rfl, rfl, by decide +kernel, rfl, by decide +kernel, by decide +kernel⟩
abbrev s_is_register : Stmt := top 13
abbrev N_is_register : List Str := ["value"]
theorem sc_is_register : FnScope N_is_register ["value"] (defScope s_is_register) := ⟨rfl, rfl, rfl, by decide +kernel, rfl, by decide +kernel, by decide +kernel⟩
abbrev s_is_number : Stmt := top 14
abbrev N_is_number : List Str := ["value", "least", "most"]
theorem sc_is_number : FnScope N_is_number ["value", "least", "most"] (defScope s_is_number) := ⟨rfl, rfl, rfl, by decide +kernel, rfl, by decide +kernel, by decide +kernel⟩
abbrev s_is_code_row : Stmt := top 20
abbrev N_is_code_row : List Str := ["value", "word"]
theorem sc_is_code_row : FnScope N_is_code_row ["value"] (defScope s_is_code_row) := ⟨rfl, rfl, rfl, by decide +kernel, rfl, by decide +kernel, by decide +kernel⟩
abbrev s_is_data_row : Stmt := top 21
abbrev N_is_data_row : List Str := ["value", "word"]
theorem sc_is_data_row : FnScope N_is_data_row ["value"] (defScope s_is_data_row) := ⟨rfl, rfl, rfl, by decide +kernel, rfl, by decide +kernel, by decide +kernel⟩
abbrev s_is_row_of : Stmt := top 22
abbrev N_is_row_of : List Str := ["part", "value"]
theorem sc_is_row_of : FnScope N_is_row_of ["part", "value"] (defScope s_is_row_of) := ⟨rfl, rfl, rfl, by decide +kernel, rfl, by decide +kernel, by decide +kernel⟩
abbrev s_is_closing : Stmt := top 23
abbrev N_is_closing : List Str := ["row"]
theorem sc_is_closing : FnScope N_is_closing ["row"] (defScope s_is_closing) := ⟨rfl, rfl, rfl, by decide +kernel, rfl, by decide +kernel, by decide +kernel⟩
abbrev s_word_of : Stmt := top 24
abbrev N_word_of : List Str := ["value"]
theorem sc_word_of : FnScope N_word_of ["value"] (defScope s_word_of) := ⟨rfl, rfl, rfl, by decide +kernel, rfl, by decide +kernel, by decide +kernel⟩
abbrev s_fit : Stmt := top 25
abbrev N_fit : List Str := ["items", "kinds", "item", "kind"]
theorem sc_fit : FnScope N_fit ["items", "kinds"] (defScope s_fit) := ⟨rfl, rfl, rfl, by decide +kernel, rfl, by decide +kernel, by decide +kernel⟩
abbrev s_fits : Stmt := top 26
abbrev N_fits : List Str := ["item", "kind", "least", "most"]
theorem sc_fits : FnScope N_fits ["item", "kind"] (defScope s_fits) := ⟨rfl, rfl, rfl, by decide +kernel, rfl, by decide +kernel, by decide +kernel⟩
abbrev s_Piece___init__ : Stmt := inClass (top 33) 0
abbrev N_Piece___init__ : List Str := ["self", "name", "part", "rows", "alignment", "scope", "keep"]
theorem sc_Piece___init__ : FnScope N_Piece___init__ ["self", "name", "part", "rows", "alignment", "scope", "keep"] (defScope s_Piece___init__) := ⟨rfl, rfl, rfl, by decide +kernel, rfl, by decide +kernel, by decide +kernel⟩
abbrev s_Piece_rows : Stmt := inClass (top 33) 1
abbrev N_Piece_rows : List Str := ["self"]
theorem sc_Piece_rows : FnScope N_Piece_rows ["self"] (defScope s_Piece_rows) := ⟨rfl, rfl, rfl, by decide +kernel, rfl, by decide +kernel, by decide +kernel⟩
abbrev s_Piece_is_shared : Stmt := inClass (top 33) 2
abbrev N_Piece_is_shared : List Str := ["self"]
theorem sc_Piece_is_shared : FnScope N_Piece_is_shared ["self"] (defScope s_Piece_is_shared) := ⟨rfl, rfl, rfl, by decide +kernel, rfl, by decide +kernel, by decide +kernel⟩
abbrev s_Piece_is_strong : Stmt := inClass (top 33) 3
abbrev N_Piece_is_strong : List Str := ["self"]
theorem sc_Piece_is_strong : FnScope N_Piece_is_strong ["self"] (defScope s_Piece_is_strong) := ⟨rfl, rfl, rfl, by decide +kernel, rfl, by decide +kernel, by decide +kernel⟩
abbrev s_Piece___eq__ : Stmt := inClass (top 33) 4
abbrev N_Piece___eq__ : List Str := ["self", "other"]
theorem sc_Piece___eq__ : FnScope N_Piece___eq__ ["self", "other"] (defScope s_Piece___eq__) := ⟨rfl, rfl, rfl, by decide +kernel, rfl, by decide +kernel, by decide +kernel⟩
abbrev s_Piece___len__ : Stmt := inClass (top 33) 5
abbrev N_Piece___len__ : List Str := ["self"]
theorem sc_Piece___len__ : FnScope N_Piece___len__ ["self"] (defScope s_Piece___len__) := ⟨rfl, rfl, rfl, by decide +kernel, rfl, by decide +kernel, by decide +kernel⟩
abbrev s_Piece___bool__ : Stmt := inClass (top 33) 6
abbrev N_Piece___bool__ : List Str := ["self"]
theorem sc_Piece___bool__ : FnScope N_Piece___bool__ ["self"] (defScope s_Piece___bool__) := ⟨rfl, rfl, rfl, by decide +kernel, rfl, by decide +kernel, by decide +kernel⟩
abbrev s_Piece___repr__ : Stmt := inClass (top 33) 7
abbrev N_Piece___repr__ : List Str := ["self"]
theorem sc_Piece___repr__ : FnScope N_Piece___repr__ ["self"] (defScope s_Piece___repr__) := ⟨rfl, rfl, rfl, by decide +kernel, rfl, by decide +kernel, by decide +kernel⟩
abbrev s_is_part : Stmt := top 34
abbrev N_is_part : List Str := ["value"]
theorem sc_is_part : FnScope N_is_part ["value"] (defScope s_is_part) := ⟨rfl, rfl, rfl, by decide +kernel, rfl, by decide +kernel, by decide +kernel⟩
abbrev s_is_alignment : Stmt := top 35
abbrev N_is_alignment : List Str := ["value"]
theorem sc_is_alignment : FnScope N_is_alignment ["value"] (defScope s_is_alignment) := ⟨rfl, rfl, rfl, by decide +kernel, rfl, by decide +kernel, by decide +kernel⟩
abbrev s_is_scope_of : Stmt := top 36
abbrev N_is_scope_of : List Str := ["part", "value"]
theorem sc_is_scope_of : FnScope N_is_scope_of ["part", "value"] (defScope s_is_scope_of) := ⟨rfl, rfl, rfl, by decide +kernel, rfl, by decide +kernel, by decide +kernel⟩
abbrev s_ends_closing : Stmt := top 37
abbrev N_ends_closing : List Str := ["part", "rows"]
theorem sc_ends_closing : FnScope N_ends_closing ["part", "rows"] (defScope s_ends_closing) := ⟨rfl, rfl, rfl, by decide +kernel, rfl, by decide +kernel, by decide +kernel⟩
abbrev s_check_rows : Stmt := top 38
abbrev N_check_rows : List Str := ["part", "rows", "at", "row"]
theorem sc_check_rows : FnScope N_check_rows ["part", "rows"] (defScope s_check_rows) := ⟨rfl, rfl, rfl, by decide +kernel, rfl, by decide +kernel, by decide +kernel⟩
abbrev s_law_bag : Stmt := top 40
abbrev N_law_bag : List Str := ["_law_script", "_law_mixed", "_law_piled"]
theorem sc_law_bag : FnScope N_law_bag ["_law_script"] (defScope s_law_bag) := ⟨rfl, rfl, rfl, by decide +kernel, rfl, by decide +kernel, by decide +kernel⟩
abbrev s_law_draw : Stmt := top 41
abbrev N_law_draw : List Str := ["_law_bag_here", "_law_sides", "_law_piled", "_law_digit", "_law_seed"]
theorem sc_law_draw : FnScope N_law_draw ["_law_bag_here", "_law_sides"] (defScope s_law_draw) := ⟨rfl, rfl, rfl, by decide +kernel, rfl, by decide +kernel, by decide +kernel⟩
abbrev s_law_of : Stmt := top 42
abbrev N_law_of : List Str := ["_law_bag_here", "_law_things"]
theorem sc_law_of : FnScope N_law_of ["_law_bag_here", "_law_things"] (defScope s_law_of) := ⟨rfl, rfl, rfl, by decide +kernel, rfl, by decide +kernel, by decide +kernel⟩
abbrev s_law_same : Stmt := top 43
abbrev N_law_same : List Str := ["_law_found", "_law_due", "_law_a", "_law_b"]
theorem sc_law_same : FnScope N_law_same ["_law_found", "_law_due"] (defScope s_law_same) := ⟨rfl, rfl, rfl, by decide +kernel, rfl, by decide +kernel, by decide +kernel⟩
abbrev s_law_titles : Stmt := top 44
abbrev N_law_titles : List Str := ["_law_bag_here", "_law_many", "_law_left", "_law_found", "_law_stem", "_law_k", "_law_spot"]
theorem sc_law_titles : FnScope N_law_titles ["_law_bag_here", "_law_many"] (defScope s_law_titles) := ⟨rfl, rfl, rfl, by decide +kernel, rfl, by decide +kernel, by decide +kernel⟩
abbrev s_law_number : Stmt := top 45
abbrev N_law_number : List Str := ["_law_bag_here"]
theorem sc_law_number : FnScope N_law_number ["_law_bag_here"] (defScope s_law_number) := ⟨rfl, rfl, rfl, by decide +kernel, rfl, by decide +kernel, by decide +kernel⟩
abbrev s_law_r : Stmt := top 46
abbrev N_law_r : List Str := ["_law_bag_here"]
theorem sc_law_r : FnScope N_law_r ["_law_bag_here"] (defScope s_law_r) := ⟨rfl, rfl, rfl, by decide +kernel, rfl, by decide +kernel, by decide +kernel⟩
abbrev s_law_code_row : Stmt := top 47
abbrev N_law_code_row : List Str := ["_law_bag_here", "_law_titles_here", "_law_way"]
theorem sc_law_code_row : FnScope N_law_code_row ["_law_bag_here", "_law_titles_here"] (defScope s_law_code_row) := ⟨rfl, rfl, rfl, by decide +kernel, rfl, by decide +kernel, by decide +kernel⟩
abbrev s_law_last_row : Stmt := top 48
abbrev N_law_last_row : List Str := ["_law_bag_here", "_law_titles_here"]
theorem sc_law_last_row : FnScope N_law_last_row ["_law_bag_here", "_law_titles_here"] (defScope s_law_last_row) := ⟨rfl, rfl, rfl, by decide +kernel, rfl, by decide +kernel, by decide +kernel⟩
abbrev s_law_data_row : Stmt := top 49
abbrev N_law_data_row : List Str := ["_law_bag_here", "_law_titles_here", "_law_way"]
theorem sc_law_data_row : FnScope N_law_data_row ["_law_bag_here", "_law_titles_here"] (defScope s_law_data_row) := ⟨rfl, rfl, rfl, by decide +kernel, rfl, by decide +kernel, by decide +kernel⟩
abbrev s_law_piece_model : Stmt := top 50
abbrev N_law_piece_model : List Str := ["_law_bag_here", "_law_title", "_law_titles_here", "_law_most", "_law_side", "_law_scopes", "_law_lot", "_law_k"]
theorem sc_law_piece_model : FnScope N_law_piece_model ["_law_bag_here", "_law_title", "_law_titles_here", "_law_most"] (defScope s_law_piece_model) := ⟨rfl, rfl, rfl, by decide +kernel, rfl, by decide +kernel, by decide +kernel⟩
abbrev s_law_piece : Stmt := top 51
abbrev N_law_piece : List Str := ["_law_model"]
theorem sc_law_piece : FnScope N_law_piece ["_law_model"] (defScope s_law_piece) := ⟨rfl, rfl, rfl, by decide +kernel, rfl, by decide +kernel, by decide +kernel⟩
abbrev s_law_told_so : Stmt := top 52
abbrev N_law_told_so : List Str := ["_law_piece_y", "_law_model", "_law_shared", "_law_strong", "_law_label", "_law_told", "_law_due"]
theorem sc_law_told_so : FnScope N_law_told_so ["_law_piece_y", "_law_model"] (defScope s_law_told_so) := ⟨rfl, rfl, rfl, by decide +kernel, rfl, by decide +kernel, by decide +kernel⟩
abbrev s_law_others : Stmt := top 53
abbrev N_law_others : List Str := ["_law_bag_here", "_law_model", "_law_titles_here", "_law_title", "_law_side", "_law_lot", "_law_step", "_law_way", "_law_kept", "_law_found"]
theorem sc_law_others : FnScope N_law_others ["_law_bag_here", "_law_model", "_law_titles_here"] (defScope s_law_others) := ⟨rfl, rfl, rfl, by decide +kernel, rfl, by decide +kernel, by decide +kernel⟩
abbrev s_law : Stmt := top 54
abbrev N_law : List Str := ["_law_script", "_law_bag_here", "_law_titles_here", "_law_turn", "_law_model", "_law_given", "_law_made", "_law_other", "_law_again", "_law_told", "_law_same_here", "_law_late", "_law_unlike", "_law_bare", "_law_empty"]
theorem sc_law : FnScope N_law ["_law_script"] (defScope s_law) := ⟨rfl, rfl, rfl, by decide +kernel, rfl, by decide +kernel, by decide +kernel⟩
structure Fs where
  (a_is_name : Addr) (d_is_name : FuncData)
  (a_is_register : Addr) (d_is_register : FuncData)
  (a_is_number : Addr) (d_is_number : FuncData)
  (a_is_code_row : Addr) (d_is_code_row : FuncData)
  (a_is_data_row : Addr) (d_is_data_row : FuncData)
  (a_is_row_of : Addr) (d_is_row_of : FuncData)
  (a_is_closing : Addr) (d_is_closing : FuncData)
  (a_word_of : Addr) (d_word_of : FuncData)
  (a_fit : Addr) (d_fit : FuncData)
  (a_fits : Addr) (d_fits : FuncData)
  (a_Piece___init__ : Addr) (d_Piece___init__ : FuncData)
  (a_Piece_rows : Addr) (d_Piece_rows : FuncData)
  (a_Piece_is_shared : Addr) (d_Piece_is_shared : FuncData)
  (a_Piece_is_strong : Addr) (d_Piece_is_strong : FuncData)
  (a_Piece___eq__ : Addr) (d_Piece___eq__ : FuncData)
  (a_Piece___len__ : Addr) (d_Piece___len__ : FuncData)
  (a_Piece___bool__ : Addr) (d_Piece___bool__ : FuncData)
  (a_Piece___repr__ : Addr) (d_Piece___repr__ : FuncData)
  (a_is_part : Addr) (d_is_part : FuncData)
  (a_is_alignment : Addr) (d_is_alignment : FuncData)
  (a_is_scope_of : Addr) (d_is_scope_of : FuncData)
  (a_ends_closing : Addr) (d_ends_closing : FuncData)
  (a_check_rows : Addr) (d_check_rows : FuncData)
  (a_law_bag : Addr) (d_law_bag : FuncData)
  (a_law_draw : Addr) (d_law_draw : FuncData)
  (a_law_of : Addr) (d_law_of : FuncData)
  (a_law_same : Addr) (d_law_same : FuncData)
  (a_law_titles : Addr) (d_law_titles : FuncData)
  (a_law_number : Addr) (d_law_number : FuncData)
  (a_law_r : Addr) (d_law_r : FuncData)
  (a_law_code_row : Addr) (d_law_code_row : FuncData)
  (a_law_last_row : Addr) (d_law_last_row : FuncData)
  (a_law_data_row : Addr) (d_law_data_row : FuncData)
  (a_law_piece_model : Addr) (d_law_piece_model : FuncData)
  (a_law_piece : Addr) (d_law_piece : FuncData)
  (a_law_told_so : Addr) (d_law_told_so : FuncData)
  (a_law_others : Addr) (d_law_others : FuncData)
  (a_law : Addr) (d_law : FuncData)
  (e_CODE_ROWS : Array DictEntry) (z_CODE_ROWS : Nat)
  (e_DATA_ROWS : Array DictEntry) (z_DATA_ROWS : Nat)
  (e_BOUNDS : Array DictEntry) (z_BOUNDS : Nat)
  (C_Piece : Addr)
  (c_REGISTERS : Addr)
  (c_CODE_ROWS : Addr)
  (c_DATA_ROWS : Addr)
  (c_BOUNDS : Addr)
  (c_CLOSING : Addr)
  (c_PARTS : Addr)
  (c_ALIGNMENTS : Addr)
  (c_SCOPES : Addr)
  (c_STRONG : Addr)
def tb_CODE_ROWS : List (Str × List V) := [("put", [.str "R", .str "n"]), ("name", [.str "R", .str "N"]), ("add", [.str "R", .str "R"]), ("take", [.str "R", .str "R"]), ("load", [.str "R", .str "R", .str "d"]), ("store", [.str "R", .str "R", .str "d"]), ("jump", [.str "N"]), ("ifzero", [.str "R", .str "N"]), ("call", [.str "N"]), ("callby", [.str "R"]), ("back", []), ("out", [.str "R"]), ("halt", []), ("room", [.str "k"])]
def tb_DATA_ROWS : List (Str × List V) := [("word", [.str "n"]), ("address", [.str "N"]), ("room", [.str "k"])]
def tb_BOUNDS : List (Str × List V) := [("n", [.int 0, .int 65535]), ("d", [.int 0, .int 15]), ("k", [.int 1, .int 120])]
structure Txt (K : PySem.W.Frag) (w : World) (mg : Str → Option Value) (Z : Fs) : Prop where
  F_is_name : Fun K "is_name" "is_name" s_is_name Z.a_is_name Z.d_is_name
  m_is_name : mg "is_name" = some (.ref Z.a_is_name)
  b_is_name : Binds K Z.d_is_name ["value"] []
  F_is_register : Fun K "is_register" "is_register" s_is_register Z.a_is_register Z.d_is_register
  m_is_register : mg "is_register" = some (.ref Z.a_is_register)
  b_is_register : Binds K Z.d_is_register ["value"] []
  F_is_number : Fun K "is_number" "is_number" s_is_number Z.a_is_number Z.d_is_number
  m_is_number : mg "is_number" = some (.ref Z.a_is_number)
  b_is_number : Binds K Z.d_is_number ["value", "least", "most"] []
  F_is_code_row : Fun K "is_code_row" "is_code_row" s_is_code_row Z.a_is_code_row Z.d_is_code_row
  m_is_code_row : mg "is_code_row" = some (.ref Z.a_is_code_row)
  b_is_code_row : Binds K Z.d_is_code_row ["value"] []
  F_is_data_row : Fun K "is_data_row" "is_data_row" s_is_data_row Z.a_is_data_row Z.d_is_data_row
  m_is_data_row : mg "is_data_row" = some (.ref Z.a_is_data_row)
  b_is_data_row : Binds K Z.d_is_data_row ["value"] []
  F_is_row_of : Fun K "is_row_of" "is_row_of" s_is_row_of Z.a_is_row_of Z.d_is_row_of
  m_is_row_of : mg "is_row_of" = some (.ref Z.a_is_row_of)
  b_is_row_of : Binds K Z.d_is_row_of ["part", "value"] []
  F_is_closing : Fun K "is_closing" "is_closing" s_is_closing Z.a_is_closing Z.d_is_closing
  m_is_closing : mg "is_closing" = some (.ref Z.a_is_closing)
  b_is_closing : Binds K Z.d_is_closing ["row"] []
  F_word_of : Fun K "_word_of" "_word_of" s_word_of Z.a_word_of Z.d_word_of
  m_word_of : mg "_word_of" = some (.ref Z.a_word_of)
  b_word_of : Binds K Z.d_word_of ["value"] []
  F_fit : Fun K "_fit" "_fit" s_fit Z.a_fit Z.d_fit
  m_fit : mg "_fit" = some (.ref Z.a_fit)
  b_fit : Binds K Z.d_fit ["items", "kinds"] []
  F_fits : Fun K "_fits" "_fits" s_fits Z.a_fits Z.d_fits
  m_fits : mg "_fits" = some (.ref Z.a_fits)
  b_fits : Binds K Z.d_fits ["item", "kind"] []
  F_Piece___init__ : FunD K "__init__" "Piece.__init__" (defArgs s_Piece___init__) (defBody s_Piece___init__) (defScope s_Piece___init__) [] [("alignment", .int 1), ("scope", .str "local"), ("keep", .bl false)] Z.a_Piece___init__ Z.d_Piece___init__
  d_Piece___init___4_alignment_scope_keep : ∃ g, KBn K Z.d_Piece___init__ ["self", "name", "part", "rows", "alignment", "scope", "keep"] 4 ["alignment", "scope", "keep"] g (fun us ws => [(us ++ ws).getD 0 .non, (us ++ ws).getD 1 .non, (us ++ ws).getD 2 .non, (us ++ ws).getD 3 .non, (us ++ ws).getD 4 .non, (us ++ ws).getD 5 .non, (us ++ ws).getD 6 .non])
  d_Piece___init___4 : ∃ ds, Vals ([("alignment", .int 1), ("scope", .str "local"), ("keep", .bl false)].map (·.2)) ds ∧ Binds K Z.d_Piece___init__ ["self", "name", "part", "rows", "alignment", "scope", "keep"] ds
  d_Piece___init___1_keep_scope_alignment_rows_part_name : ∃ g, KBn K Z.d_Piece___init__ ["self", "name", "part", "rows", "alignment", "scope", "keep"] 1 ["keep", "scope", "alignment", "rows", "part", "name"] g (fun us ws => [(us ++ ws).getD 0 .non, (us ++ ws).getD 6 .non, (us ++ ws).getD 5 .non, (us ++ ws).getD 4 .non, (us ++ ws).getD 3 .non, (us ++ ws).getD 2 .non, (us ++ ws).getD 1 .non])
  M_Piece_rows : Meth K Z.C_Piece "rows" Z.a_Piece_rows
  F_Piece_rows : Fun K "rows" "Piece.rows" s_Piece_rows Z.a_Piece_rows Z.d_Piece_rows
  b_Piece_rows : Binds K Z.d_Piece_rows ["self"] []
  M_Piece_is_shared : Meth K Z.C_Piece "is_shared" Z.a_Piece_is_shared
  F_Piece_is_shared : Fun K "is_shared" "Piece.is_shared" s_Piece_is_shared Z.a_Piece_is_shared Z.d_Piece_is_shared
  b_Piece_is_shared : Binds K Z.d_Piece_is_shared ["self"] []
  M_Piece_is_strong : Meth K Z.C_Piece "is_strong" Z.a_Piece_is_strong
  F_Piece_is_strong : Fun K "is_strong" "Piece.is_strong" s_Piece_is_strong Z.a_Piece_is_strong Z.d_Piece_is_strong
  b_Piece_is_strong : Binds K Z.d_Piece_is_strong ["self"] []
  S_Piece___eq__ : PySem.W.findIn K (.ref Z.C_Piece) "__eq__" = some (some (.ref Z.a_Piece___eq__)) ∧ PySem.W.isFn K (.ref Z.a_Piece___eq__) = true
  F_Piece___eq__ : Fun K "__eq__" "Piece.__eq__" s_Piece___eq__ Z.a_Piece___eq__ Z.d_Piece___eq__
  b_Piece___eq__ : Binds K Z.d_Piece___eq__ ["self", "other"] []
  S_Piece___len__ : PySem.W.findIn K (.ref Z.C_Piece) "__len__" = some (some (.ref Z.a_Piece___len__)) ∧ PySem.W.isFn K (.ref Z.a_Piece___len__) = true
  F_Piece___len__ : Fun K "__len__" "Piece.__len__" s_Piece___len__ Z.a_Piece___len__ Z.d_Piece___len__
  b_Piece___len__ : Binds K Z.d_Piece___len__ ["self"] []
  S_Piece___bool__ : PySem.W.findIn K (.ref Z.C_Piece) "__bool__" = some (some (.ref Z.a_Piece___bool__)) ∧ PySem.W.isFn K (.ref Z.a_Piece___bool__) = true
  F_Piece___bool__ : Fun K "__bool__" "Piece.__bool__" s_Piece___bool__ Z.a_Piece___bool__ Z.d_Piece___bool__
  b_Piece___bool__ : Binds K Z.d_Piece___bool__ ["self"] []
  S_Piece___repr__ : PySem.W.findIn K (.ref Z.C_Piece) "__repr__" = some (some (.ref Z.a_Piece___repr__)) ∧ PySem.W.isFn K (.ref Z.a_Piece___repr__) = true
  F_Piece___repr__ : Fun K "__repr__" "Piece.__repr__" s_Piece___repr__ Z.a_Piece___repr__ Z.d_Piece___repr__
  b_Piece___repr__ : Binds K Z.d_Piece___repr__ ["self"] []
  F_is_part : Fun K "is_part" "is_part" s_is_part Z.a_is_part Z.d_is_part
  m_is_part : mg "is_part" = some (.ref Z.a_is_part)
  b_is_part : Binds K Z.d_is_part ["value"] []
  F_is_alignment : Fun K "is_alignment" "is_alignment" s_is_alignment Z.a_is_alignment Z.d_is_alignment
  m_is_alignment : mg "is_alignment" = some (.ref Z.a_is_alignment)
  b_is_alignment : Binds K Z.d_is_alignment ["value"] []
  F_is_scope_of : Fun K "is_scope_of" "is_scope_of" s_is_scope_of Z.a_is_scope_of Z.d_is_scope_of
  m_is_scope_of : mg "is_scope_of" = some (.ref Z.a_is_scope_of)
  b_is_scope_of : Binds K Z.d_is_scope_of ["part", "value"] []
  F_ends_closing : Fun K "ends_closing" "ends_closing" s_ends_closing Z.a_ends_closing Z.d_ends_closing
  m_ends_closing : mg "ends_closing" = some (.ref Z.a_ends_closing)
  b_ends_closing : Binds K Z.d_ends_closing ["part", "rows"] []
  F_check_rows : Fun K "_check_rows" "_check_rows" s_check_rows Z.a_check_rows Z.d_check_rows
  m_check_rows : mg "_check_rows" = some (.ref Z.a_check_rows)
  b_check_rows : Binds K Z.d_check_rows ["part", "rows"] []
  F_law_bag : Fun K "_law_bag" "_law_bag" s_law_bag Z.a_law_bag Z.d_law_bag
  m_law_bag : mg "_law_bag" = some (.ref Z.a_law_bag)
  b_law_bag : Binds K Z.d_law_bag ["_law_script"] []
  F_law_draw : Fun K "_law_draw" "_law_draw" s_law_draw Z.a_law_draw Z.d_law_draw
  m_law_draw : mg "_law_draw" = some (.ref Z.a_law_draw)
  b_law_draw : Binds K Z.d_law_draw ["_law_bag_here", "_law_sides"] []
  F_law_of : Fun K "_law_of" "_law_of" s_law_of Z.a_law_of Z.d_law_of
  m_law_of : mg "_law_of" = some (.ref Z.a_law_of)
  b_law_of : Binds K Z.d_law_of ["_law_bag_here", "_law_things"] []
  F_law_same : Fun K "_law_same" "_law_same" s_law_same Z.a_law_same Z.d_law_same
  m_law_same : mg "_law_same" = some (.ref Z.a_law_same)
  b_law_same : Binds K Z.d_law_same ["_law_found", "_law_due"] []
  F_law_titles : Fun K "_law_titles" "_law_titles" s_law_titles Z.a_law_titles Z.d_law_titles
  m_law_titles : mg "_law_titles" = some (.ref Z.a_law_titles)
  b_law_titles : Binds K Z.d_law_titles ["_law_bag_here", "_law_many"] []
  F_law_number : Fun K "_law_number" "_law_number" s_law_number Z.a_law_number Z.d_law_number
  m_law_number : mg "_law_number" = some (.ref Z.a_law_number)
  b_law_number : Binds K Z.d_law_number ["_law_bag_here"] []
  F_law_r : Fun K "_law_r" "_law_r" s_law_r Z.a_law_r Z.d_law_r
  m_law_r : mg "_law_r" = some (.ref Z.a_law_r)
  b_law_r : Binds K Z.d_law_r ["_law_bag_here"] []
  F_law_code_row : Fun K "_law_code_row" "_law_code_row" s_law_code_row Z.a_law_code_row Z.d_law_code_row
  m_law_code_row : mg "_law_code_row" = some (.ref Z.a_law_code_row)
  b_law_code_row : Binds K Z.d_law_code_row ["_law_bag_here", "_law_titles_here"] []
  F_law_last_row : Fun K "_law_last_row" "_law_last_row" s_law_last_row Z.a_law_last_row Z.d_law_last_row
  m_law_last_row : mg "_law_last_row" = some (.ref Z.a_law_last_row)
  b_law_last_row : Binds K Z.d_law_last_row ["_law_bag_here", "_law_titles_here"] []
  F_law_data_row : Fun K "_law_data_row" "_law_data_row" s_law_data_row Z.a_law_data_row Z.d_law_data_row
  m_law_data_row : mg "_law_data_row" = some (.ref Z.a_law_data_row)
  b_law_data_row : Binds K Z.d_law_data_row ["_law_bag_here", "_law_titles_here"] []
  F_law_piece_model : Fun K "_law_piece_model" "_law_piece_model" s_law_piece_model Z.a_law_piece_model Z.d_law_piece_model
  m_law_piece_model : mg "_law_piece_model" = some (.ref Z.a_law_piece_model)
  b_law_piece_model : Binds K Z.d_law_piece_model ["_law_bag_here", "_law_title", "_law_titles_here", "_law_most"] []
  F_law_piece : Fun K "_law_piece" "_law_piece" s_law_piece Z.a_law_piece Z.d_law_piece
  m_law_piece : mg "_law_piece" = some (.ref Z.a_law_piece)
  b_law_piece : Binds K Z.d_law_piece ["_law_model"] []
  F_law_told_so : Fun K "_law_told_so" "_law_told_so" s_law_told_so Z.a_law_told_so Z.d_law_told_so
  m_law_told_so : mg "_law_told_so" = some (.ref Z.a_law_told_so)
  b_law_told_so : Binds K Z.d_law_told_so ["_law_piece_y", "_law_model"] []
  F_law_others : Fun K "_law_others" "_law_others" s_law_others Z.a_law_others Z.d_law_others
  m_law_others : mg "_law_others" = some (.ref Z.a_law_others)
  b_law_others : Binds K Z.d_law_others ["_law_bag_here", "_law_model", "_law_titles_here"] []
  F_law : Fun K "law" "law" s_law Z.a_law Z.d_law
  m_law : mg "law" = some (.ref Z.a_law)
  b_law : Binds K Z.d_law ["_law_script"] []
  cl_Piece : Cls K Z.C_Piece
  m_Piece : mg "Piece" = some (.ref Z.C_Piece)
  mk_Piece : Mk K Z.C_Piece Z.a_Piece___init__
  n_Piece_name : NoAttr K Z.C_Piece "name"
  n_Piece_part : NoAttr K Z.C_Piece "part"
  n_Piece_alignment : NoAttr K Z.C_Piece "alignment"
  n_Piece_scope : NoAttr K Z.C_Piece "scope"
  n_Piece_keep : NoAttr K Z.C_Piece "keep"
  n_Piece__rows : NoAttr K Z.C_Piece "_rows"
  i_Piece : IsK K Z.C_Piece
  n_abs : mg "abs" = none
  n_all : mg "all" = none
  n_bool : mg "bool" = none
  n_enumerate : mg "enumerate" = none
  n_int : mg "int" = none
  n_isinstance : mg "isinstance" = none
  n_len : mg "len" = none
  n_list : mg "list" = none
  n_range : mg "range" = none
  n_repr : mg "repr" = none
  n_str : mg "str" = none
  n_tuple : mg "tuple" = none
  n_zip : mg "zip" = none
  g_MOST_LETTERS : ∃ t, mg "MOST_LETTERS" = some (.int 6 t)
  g_REGISTERS : mg "REGISTERS" = some (.ref Z.c_REGISTERS)
  v_REGISTERS : ∀ H : Hp, SqT K H Z.c_REGISTERS [.str "r0", .str "r1", .str "r2"]
  L_REGISTERS : ∃ o, K.lookup Z.c_REGISTERS = some o ∧ o.cls = .type "tuple" ∧ o.dict = none
  g_CODE_ROWS : mg "CODE_ROWS" = some (.ref Z.c_CODE_ROWS)
  g_DATA_ROWS : mg "DATA_ROWS" = some (.ref Z.c_DATA_ROWS)
  g_BOUNDS : mg "BOUNDS" = some (.ref Z.c_BOUNDS)
  g_CLOSING : mg "CLOSING" = some (.ref Z.c_CLOSING)
  v_CLOSING : ∀ H : Hp, SqT K H Z.c_CLOSING [.str "jump", .str "halt", .str "back"]
  L_CLOSING : ∃ o, K.lookup Z.c_CLOSING = some o ∧ o.cls = .type "tuple" ∧ o.dict = none
  g_PARTS : mg "PARTS" = some (.ref Z.c_PARTS)
  v_PARTS : ∀ H : Hp, SqT K H Z.c_PARTS [.str "code", .str "data"]
  L_PARTS : ∃ o, K.lookup Z.c_PARTS = some o ∧ o.cls = .type "tuple" ∧ o.dict = none
  g_ALIGNMENTS : mg "ALIGNMENTS" = some (.ref Z.c_ALIGNMENTS)
  v_ALIGNMENTS : ∀ H : Hp, SqT K H Z.c_ALIGNMENTS [.int 1, .int 2, .int 4, .int 8, .int 16]
  L_ALIGNMENTS : ∃ o, K.lookup Z.c_ALIGNMENTS = some o ∧ o.cls = .type "tuple" ∧ o.dict = none
  g_SCOPES : mg "SCOPES" = some (.ref Z.c_SCOPES)
  v_SCOPES : ∀ H : Hp, SqT K H Z.c_SCOPES [.str "local", .str "export", .str "open", .str "weak"]
  L_SCOPES : ∃ o, K.lookup Z.c_SCOPES = some o ∧ o.cls = .type "tuple" ∧ o.dict = none
  g_STRONG : mg "STRONG" = some (.ref Z.c_STRONG)
  v_STRONG : ∀ H : Hp, SqT K H Z.c_STRONG [.str "export", .str "open"]
  L_STRONG : ∃ o, K.lookup Z.c_STRONG = some o ∧ o.cls = .type "tuple" ∧ o.dict = none
  g_MOST_ROWS : ∃ t, mg "MOST_ROWS" = some (.int 16 t)
  D_CODE_ROWS : KDict K w Z.c_CODE_ROWS Z.e_CODE_ROWS Z.z_CODE_ROWS
  x_CODE_ROWS : ∀ z : Str, ∃ r, PySem.W.nsIn K Z.c_CODE_ROWS z = some r ∧ RelOpt (RelTu K) (findT tb_CODE_ROWS z) r
  D_DATA_ROWS : KDict K w Z.c_DATA_ROWS Z.e_DATA_ROWS Z.z_DATA_ROWS
  x_DATA_ROWS : ∀ z : Str, ∃ r, PySem.W.nsIn K Z.c_DATA_ROWS z = some r ∧ RelOpt (RelTu K) (findT tb_DATA_ROWS z) r
  D_BOUNDS : KDict K w Z.c_BOUNDS Z.e_BOUNDS Z.z_BOUNDS
  x_BOUNDS : ∀ z : Str, ∃ r, PySem.W.nsIn K Z.c_BOUNDS z = some r ∧ RelOpt (RelTu K) (findT tb_BOUNDS z) r
section
variable {X : Cx} {CX : CXT} {k : Nat} {f : Addr} {fd : FuncData} {ps ks : List Str} {sp : Sp} {E : XK} {x : Str} {p pos : Pos} {kws : List Keyword} {tk : TA} {g : List Value → List Value → List Value} {gV : List V → List V → List V}
/-- f(k = v, ..), no value by place -/
theorem pe_callN0 (F : FnOk X.prog X.w X.K X.mg X.base CX k f fd ps sp) (hr : Room k X.A) (hg : Gl X x) (hm : X.mg x = some (.ref f)) (hk : PySem.W.keepIn X.K (.ref f) = true) (hb : KBn X.K fd ps 0 ks g gV) (hx : Passes CX X E) (hkw : PK X kws tk)
    (hall : (backToKw pos (keywordEach kws X.env)).all (·.1.isSome) = true := by rfl) (hks : (backToKw pos (keywordEach kws X.env)).filterMap (·.1) = ks := by rfl) (hdb : (x == ("__debug__" : Str)) = false := by decide)
    (hpl : ((backTo pos (starEach [] X.env)).any (·.1) || (backToKw pos (keywordEach kws X.env)).any (·.1.isNone)) = false := by rfl) :
    PE X (.Call (.Name x p) [] kws pos) (tCallN 0 ks.length sp gV E tNil tk) := by
  refine ⟨fun pins s σ H Q I h => ?_⟩
  refine wpAny_Call_Name_kw (ld_glob I hg hm ?_ hdb)
  refine PySem.W.callWith_KW0 (h₀ := X.base) I.ok.mod.kin hk hall ?_ hpl
  refine thn (hkw.run pos pins s σ H _ I h) fun ws s2 ⟨zs, H2, I2, rz, l1, l2, q2⟩ => ⟨I2.kIn, ?_⟩
  rw [hks]
  exact run_fnN (us := []) (vs := []) F hr hb hx I2 .nil rz rfl l2 q2
end
theorem getD_rel : ∀ {vs : List V} {us : List Value} (h : Vals vs us) (i : Nat), RelV (vs.getD i .non) (us.getD i .none)
  | _, _, .nil, _ => rfl
  | _, _, .cons r _, 0 => r
  | _, _, .cons _ t, i + 1 => getD_rel t i
theorem kbn_d_Piece___init___4_alignment_scope_keep {K : PySem.W.Frag} {f : Addr} {fd : FuncData} (F : FunD K "__init__" "Piece.__init__" (defArgs s_Piece___init__) (defBody s_Piece___init__) (defScope s_Piece___init__) [] [("alignment", .int 1), ("scope", .str "local"), ("keep", .bl false)] f fd) : ∃ g, KBn K fd ["self", "name", "part", "rows", "alignment", "scope", "keep"] 4 ["alignment", "scope", "keep"] g (fun us ws => [(us ++ ws).getD 0 .non, (us ++ ws).getD 1 .non, (us ++ ws).getD 2 .non, (us ++ ws).getD 3 .non, (us ++ ws).getD 4 .non, (us ++ ws).getD 5 .non, (us ++ ws).getD 6 .non]) := by
  obtain ⟨oc, od, dV, kV, doc, pm, an, cdv, ct, osl, rfl, lk, hcd, hD, hK⟩ := F.ex
  rcases hD with ⟨_, rfl⟩ | ⟨e, _⟩
  · rcases hK with e | ⟨D, rfl, hq⟩
    · exact absurd e (fun z => nomatch z)
    · refine ⟨fun us ws => [(us ++ ws).getD 0 .none, (us ++ ws).getD 1 .none, (us ++ ws).getD 2 .none, (us ++ ws).getD 3 .none, (us ++ ws).getD 4 .none, (us ++ ws).getD 5 .none, (us ++ ws).getD 6 .none], fun s us ws X l1 l2 => ?_, fun r1 r2 => .cons (getD_rel (r1.append r2) 0) (.cons (getD_rel (r1.append r2) 1) (.cons (getD_rel (r1.append r2) 2) (.cons (getD_rel (r1.append r2) 3) (.cons (getD_rel (r1.append r2) 4) (.cons (getD_rel (r1.append r2) 5) (.cons (getD_rel (r1.append r2) 6) (.nil)))))))⟩
      match us, ws, l1, l2 with
      | [_, _, _, _], [_, _, _], _, _ => exact .of_eq rfl
  · exact absurd rfl e
theorem kbn_d_Piece___init___4 {K : PySem.W.Frag} {f : Addr} {fd : FuncData} (F : FunD K "__init__" "Piece.__init__" (defArgs s_Piece___init__) (defBody s_Piece___init__) (defScope s_Piece___init__) [] [("alignment", .int 1), ("scope", .str "local"), ("keep", .bl false)] f fd) : ∃ ds, Vals ([("alignment", .int 1), ("scope", .str "local"), ("keep", .bl false)].map (·.2)) ds ∧ Binds K fd ["self", "name", "part", "rows", "alignment", "scope", "keep"] ds :=
  F.binds0 (ps := ["self", "name", "part", "rows", "alignment", "scope", "keep"]) 4 (fun z => nomatch z) rfl fun D doc pm an cdv ct us its l1 l2 => match us, its, l1, l2 with
  | [_, _, _, _], [_, _, _], _, _ => ⟨_, _, _, _, _, _, rfl, rfl, ⟨_, _, _, _, _, _, rfl, rfl, ⟨_, _, _, _, _, _, rfl, rfl, rfl⟩⟩⟩
theorem kbn_d_Piece___init___1_keep_scope_alignment_rows_part_name {K : PySem.W.Frag} {f : Addr} {fd : FuncData} (F : FunD K "__init__" "Piece.__init__" (defArgs s_Piece___init__) (defBody s_Piece___init__) (defScope s_Piece___init__) [] [("alignment", .int 1), ("scope", .str "local"), ("keep", .bl false)] f fd) : ∃ g, KBn K fd ["self", "name", "part", "rows", "alignment", "scope", "keep"] 1 ["keep", "scope", "alignment", "rows", "part", "name"] g (fun us ws => [(us ++ ws).getD 0 .non, (us ++ ws).getD 6 .non, (us ++ ws).getD 5 .non, (us ++ ws).getD 4 .non, (us ++ ws).getD 3 .non, (us ++ ws).getD 2 .non, (us ++ ws).getD 1 .non]) := by
  obtain ⟨oc, od, dV, kV, doc, pm, an, cdv, ct, osl, rfl, lk, hcd, hD, hK⟩ := F.ex
  rcases hD with ⟨_, rfl⟩ | ⟨e, _⟩
  · rcases hK with e | ⟨D, rfl, hq⟩
    · exact absurd e (fun z => nomatch z)
    · refine ⟨fun us ws => [(us ++ ws).getD 0 .none, (us ++ ws).getD 6 .none, (us ++ ws).getD 5 .none, (us ++ ws).getD 4 .none, (us ++ ws).getD 3 .none, (us ++ ws).getD 2 .none, (us ++ ws).getD 1 .none], fun s us ws X l1 l2 => ?_, fun r1 r2 => .cons (getD_rel (r1.append r2) 0) (.cons (getD_rel (r1.append r2) 6) (.cons (getD_rel (r1.append r2) 5) (.cons (getD_rel (r1.append r2) 4) (.cons (getD_rel (r1.append r2) 3) (.cons (getD_rel (r1.append r2) 2) (.cons (getD_rel (r1.append r2) 1) (.nil)))))))⟩
      match us, ws, l1, l2 with
      | [_], [_, _, _, _, _, _], _, _ => exact .of_eq rfl
  · exact absurd rfl e
/-! ### the bag of the law: a list of a list of ints and four numbers -/
def Bag (H : Hp) (b l : Addr) : Prop := ∃ (ns : List Int) (i : Nat) (r m n : Int), H b = some (.lst [.ref l, .int i, .int r, .int m, .int n]) ∧ H l = some (.lst (ns.map V.int)) ∧ l ≠ b ∧ ns.length ≤ 63 ∧ 0 ≤ r ∧ 0 ≤ m ∧ m < 2147483648
/-- all that was tracked, the bag apart, is as it was -/
def Stp (b : Addr) (H H' : Hp) : Prop := ∀ a o, a ≠ b → H a = some o → H' a = some o
theorem Stp.refl {b : Addr} {H : Hp} : Stp b H H := fun _ _ _ h => h
theorem Stp.trans {b : Addr} {H H1 H2 : Hp} (x : Stp b H H1) (y : Stp b H1 H2) : Stp b H H2 := fun a o n h => y a o n (x a o n h)
theorem Stp.put {b : Addr} {H : Hp} {o : HO} : Stp b H (upd H b o) := fun a u n h => by rw [upd_ne n]; exact h
theorem Stp.new {b p : Addr} {H : Hp} {o : HO} (h : H p = none) : Stp b H (upd H p o) := fun a u _ e => by rw [upd_ne (ne_of_none e h)]; exact e
theorem Same.new {p : Addr} {H : Hp} {o : HO} (h : H p = none) : Same H (upd H p o) := fun a u e => by rw [upd_ne (ne_of_none e h)]; exact e
theorem Same.stp {b : Addr} {H H' : Hp} (h : Same H H') : Stp b H H' := fun a o _ e => h a o e
theorem Bag.same {b l : Addr} {H H' : Hp} (s : Same H H') (h : Bag H b l) : Bag H' b l := by
  obtain ⟨ns, i, r, m, n, h1, h2, h3⟩ := h
  exact ⟨ns, i, r, m, n, s _ _ h1, s _ _ h2, h3⟩
theorem Bag.new {b l p : Addr} {H : Hp} {o : HO} (h : Bag H b l) (hp : H p = none) : Bag (upd H p o) b l := h.same (Same.new hp)
theorem Bag.ne {b l p : Addr} {H : Hp} (h : Bag H b l) (hp : H p = none) : p ≠ b := by
  obtain ⟨ns, i, r, m, n, h1, _⟩ := h
  exact (ne_of_none h1 hp).symm
theorem Bag.nel {b l p : Addr} {H : Hp} (h : Bag H b l) (hp : H p = none) : p ≠ l := by
  obtain ⟨ns, i, r, m, n, _, h1, _⟩ := h
  exact (ne_of_none h1 hp).symm
/-- a list of one's own is written -/
theorem Bag.put {b l p : Addr} {H : Hp} {o : HO} (h : Bag H b l) (n : p ≠ b) (nl : p ≠ l) : Bag (upd H p o) b l := by
  obtain ⟨ns, i, r, m, c, h1, h2, h3⟩ := h
  exact ⟨ns, i, r, m, c, by rw [upd_ne n.symm]; exact h1, by rw [upd_ne nl.symm]; exact h2, h3⟩
/-- what was new is new: the bag stands behind, too -/
theorem Stp.free {b l p : Addr} {H H' : Hp} (s : Stp b H H') (hb : Bag H' b l) (hp : H' p = none) : H p = none := by
  cases q : H p with
  | none => rfl
  | some o =>
    rw [s p o (hb.ne hp) q] at hp
    cases hp
theorem Stp.sqL {K : PySem.W.Frag} {b a : Addr} {H H' : Hp} {xs : List V} (s : Stp b H H') (n : a ≠ b) (h : SqL K H a xs) : SqL K H' a xs := by
  rcases h with (h | ⟨o, h⟩) | h
  · exact .inl (.inl (s _ _ n h))
  · exact .inl (.inr ⟨o, s _ _ n h⟩)
  · exact .inr h
theorem Stp.sqT {K : PySem.W.Frag} {b a : Addr} {H H' : Hp} {xs : List V} (s : Stp b H H') (n : a ≠ b) (h : SqT K H a xs) : SqT K H' a xs := by
  rcases h with (h | ⟨o, h⟩) | h
  · exact .inl (.inl (s _ _ n h))
  · exact .inl (.inr ⟨o, s _ _ n h⟩)
  · exact .inr h
/-- new: not tracked ahead, another one than the bag -/
theorem cut_ints (ns : List Int) (k : Nat) : cutV (ns.map V.int) none (some (k : Int)) = (ns.take k).map V.int := by
  unfold cutV
  rw [HT.sIx_none, HT.sIx_nat, List.drop_zero, Nat.sub_zero, List.map_take]
  by_cases h : k ≤ (ns.map V.int).length
  · rw [Nat.min_eq_left h]
  · rw [Nat.min_eq_right (by omega), List.take_length, List.take_of_length_le (by omega)]
theorem int_of_map {ns : List Int} {i : Nat} {y : V} (hi : (ns.map V.int)[i]? = some y) : ∃ u, y = V.int u := by
  rw [List.getElem?_map] at hi
  cases e : ns[i]? with
  | none => rw [e] at hi; cases hi
  | some u => rw [e] at hi; exact ⟨u, (Option.some.inj hi).symm⟩
theorem mem_at {α : Type} {xs : List α} {d : Int} (h0 : 0 ≤ d) (h1 : d < xs.length) : ∃ v, atI xs d = some v ∧ v ∈ xs := by
  obtain ⟨j, rfl⟩ : ∃ j : Nat, d = (j : Int) := ⟨d.toNat, by omega⟩
  have hj : j < xs.length := by omega
  exact ⟨xs[j], atI_nat (List.getElem?_eq_getElem hj), List.getElem_mem hj⟩

section
variable {P : Program} {w : World} {K : PySem.W.Frag} {mg : Str → Option Value} {base : Heap} {Z : Fs}
/-! ### _law_bag -/
def sp_law_bag (K : PySem.W.Frag) : Sp := fun vs H Q _ => ∃ (a : Addr) (ns : List Int), vs = [.ref a] ∧ SqL K H a (ns.map V.int) ∧ ns.length ≤ 63 ∧ ∀ (H' : Hp) (b l : Addr), Same H H' → H b = none → H l = none → Bag H' b l → Q (.ref b) H'
theorem ok_law_bag (T : Txt K w mg Z) : FnOk P w K mg base CX0 1 Z.a_law_bag Z.d_law_bag ["_law_script"] (sp_law_bag K) := by
  refine T.F_law_bag.ok sc_law_bag (fun vs H Q E h => ?_) (fun cdv A outer s H vs Q E hr h => ?_)
  · obtain ⟨a, ns, rfl, _⟩ := h
    rfl
  · obtain ⟨a, ns, rfl, hS, hlen, k⟩ := h
    refine ⟨_, (pss_cons (ps_set (i := 1) sc_law_bag.nd rfl (Or.inl rfl) pe_int)
      (pss_cons (ps_for PassesOwn.never rfl (pi_list (pe_slice sl_list (pv 0) po_none (po_some pe_int))) (pg_name (i := 2) sc_law_bag.nd rfl (Or.inl rfl)) (pss_one (ps_set (i := 1) sc_law_bag.nd rfl (Or.inl rfl) (pe_op op_mod (pe_callTy call_int1 (by rfl) T.n_int boot_int (pa_cons (pe_op op_add (pe_op op_add (pe_op op_mul (pv 1) pe_int) (pe_op op_mul (pe_op op_mod (pe_callTy call_int1 (by rfl) T.n_int boot_int (pa_cons (pv 2) pa_nil)) pe_int) pe_int)) pe_int) pa_nil)) pe_int))))
      (pss_one (ps_ret (pe_lst (pa_cons (pe_callTy call_list_of (by rfl) T.n_list boot_list (pa_cons (pe_slice sl_list (pv 0) po_none (po_some pe_int)) pa_nil)) (pa_cons pe_int (pa_cons pe_int (pa_cons (pv 1) (pa_cons pe_int pa_nil)))))))))), ?_⟩
    refine ⟨.ref a, rfl, 63, rfl, a, ns.map V.int, rfl, hS, fun p hp => ?_⟩
    have s1 : Same H (upd H p (.lst (cutV (ns.map V.int) none (some 63)))) := Same.new hp
    have ec : cutV (ns.map V.int) none (some 63) = (ns.take 63).map V.int := cut_ints ns 63
    refine ⟨p, rfl, ⟨_, SqL.of upd_same⟩, for_list (K := K) (a := p) (xs := cutV (ns.map V.int) none (some 63)) (fun i σ H' => ∃ (m : Int) (v : Option V), σ = [some (.ref a), some (.int m), v] ∧ Same (upd H p (.lst (cutV (ns.map V.int) none (some 63)))) H' ∧ 0 ≤ m ∧ m < 2147483579)
      ⟨12026, none, rfl, Same.refl _, by decide, by decide⟩ (fun i σ H' _ ⟨_, _, _, s2, _⟩ => SqL.of (s2 _ _ upd_same)) ?_ ?_⟩
    · rintro i y σ H' hi ⟨m, v, rfl, s2, h0, h1⟩
      rw [ec] at hi
      obtain ⟨u, rfl⟩ := int_of_map hi
      refine ⟨_, rfl, _, _, rfl, rfl, .inr ⟨by decide, by decide⟩, _, rfl, .inl ⟨_, rfl, _, _, rfl, rfl, (by show (0 : Int) < 1000639; decide), _, _, rfl, rfl, .inr ⟨by decide, by decide⟩, _, _, rfl, rfl, _, _, rfl, rfl, .inl ⟨_, rfl, _, _, rfl, rfl, (by show (0 : Int) < 2147483579; decide), ?_⟩⟩⟩
      exact ⟨_, _, rfl, s2, Int.emod_nonneg _ (by decide), Int.emod_lt_of_pos _ (by decide)⟩
    · rintro σ H' ⟨m, v, rfl, s2, h0, h1⟩
      refine ⟨.ref a, rfl, 63, rfl, a, ns.map V.int, rfl, (s1.trans s2).seq hS, fun q hq => ⟨q, _, rfl, .inl (SqL.of upd_same), fun l hl => ⟨_, rfl, (by show 5 ≤ sizeLine; decide), fun b hb => ?_⟩⟩⟩
      have nlb : l ≠ b := fun e => by
        rw [← e, upd_same] at hb
        cases hb
      have s3 := ((s1.trans s2).trans (Same.new (o := .lst (cutV (ns.map V.int) none (some 63))) hq)).trans (Same.new (o := .lst (cutV (ns.map V.int) none (some 63))) hl)
      refine k _ b l (s3.trans (Same.new hb)) (s3.free hb) (((s1.trans s2).trans (Same.new (o := .lst (cutV (ns.map V.int) none (some 63))) hq)).free hl) ⟨ns.take 63, 0, 0, m, 0, upd_same, ?_, nlb, ?_, by decide, h0, by omega⟩
      · rw [upd_ne nlb, upd_same, ec]
      · rw [List.length_take]
        omega
end

section
variable {P : Program} {w : World} {K : PySem.W.Frag} {mg : Str → Option Value} {base : Heap} {Z : Fs}
/-! ### _law_draw -/
def sp_law_draw : Sp := fun vs H Q _ => ∃ (b l : Addr) (d : Int), vs = [.ref b, .int d] ∧ Bag H b l ∧ 0 < d ∧ d < 1073741824 ∧ ∀ (H' : Hp) (v : Int), Stp b H H' → Bag H' b l → 0 ≤ v → v < d → Q (.int v) H'
theorem ok_law_draw (T : Txt K w mg Z) : FnOk P w K mg base CX0 1 Z.a_law_draw Z.d_law_draw ["_law_bag_here", "_law_sides"] sp_law_draw := by
  refine T.F_law_draw.ok sc_law_draw (fun vs H Q E h => ?_) (fun cdv A outer s H vs Q E hr h => ?_)
  · obtain ⟨b, l, d, rfl, _⟩ := h
    rfl
  · obtain ⟨b, l, d, rfl, ⟨ns, i, r, m, n, hb, hl, nlb, hlen, r0, m0, m1⟩, d0, d1, k⟩ := h
    refine ⟨_, (pss_cons (ps_asg (pe_op op_add (pe_ix ix_list (pv 0) pe_int (fun _ _ => rfl)) pe_int) (pg_sub (pv 0) pe_int set_list))
      (C8.pss_cut (ps_if (PW.pt (pw_and (pt_cmpR op_eq (pe_ix ix_list (pv 0) pe_int (fun _ _ => rfl)) pe_int (nomark _)) (pw_and1 (pt_cmpR op_lt (pe_ix ix_list (pv 0) pe_int (fun _ _ => rfl)) (pe_callB call_len (by rfl) T.n_len boot_len (pa_cons (pe_ix ix_list (pv 0) pe_int (fun _ _ => rfl)) pa_nil)) (nomark _))))) (pss_cons (ps_set (i := 2) sc_law_draw.nd rfl (Or.inl rfl) (pe_callTy call_int1 (by rfl) T.n_int boot_int (pa_cons (pe_ix ix_list (pe_ix ix_list (pv 0) pe_int (fun _ _ => rfl)) (pe_ix ix_list (pv 0) pe_int (fun _ _ => rfl)) (fun _ _ => rfl)) pa_nil)))
      (pss_cons (ps_asg (pe_op op_add (pe_ix ix_list (pv 0) pe_int (fun _ _ => rfl)) pe_int) (pg_sub (pv 0) pe_int set_list))
      (pss_one (ps_if (pt_cmpR op_ge (pe_callB call_abs (by rfl) T.n_abs boot_abs (pa_cons (pv 2) pa_nil)) (pe_op op_pow pe_int pe_int) (nomark _)) (pss_one (ps_asg (pe_callB call_abs (by rfl) T.n_abs boot_abs (pa_cons (pv 2) pa_nil)) (pg_sub (pv 0) pe_int set_list))) (pss_one (ps_asg (pe_op op_mod (pe_callTy call_int1 (by rfl) T.n_int boot_int (pa_cons (pe_op op_add (pe_op op_add (pe_op op_mul (pe_ix ix_list (pv 0) pe_int (fun _ _ => rfl)) pe_int) (pe_op op_mul (pe_op op_mod (pe_callTy call_int1 (by rfl) T.n_int boot_int (pa_cons (pv 2) pa_nil)) pe_int) pe_int)) pe_int) pa_nil)) pe_int) (pg_sub (pv 0) pe_int set_list))))))) pss_nil)
      (pss_cons (ps_if (pt_cmpR op_gt (pe_ix ix_list (pv 0) pe_int (fun _ _ => rfl)) pe_int (nomark _)) (pss_cons (ps_set (i := 3) sc_law_draw.nd rfl (Or.inl rfl) (pe_op op_mod (pe_callTy call_int1 (by rfl) T.n_int boot_int (pa_cons (pe_ix ix_list (pv 0) pe_int (fun _ _ => rfl)) pa_nil)) (pv 1)))
      (pss_cons (ps_asg (pe_op op_fdiv (pe_ix ix_list (pv 0) pe_int (fun _ _ => rfl)) (pv 1)) (pg_sub (pv 0) pe_int set_list))
      (pss_one (ps_ret (pv 3))))) pss_nil)
      (pss_cons (ps_set (i := 4) sc_law_draw.nd rfl (Or.inl rfl) (pe_callTy call_int1 (by rfl) T.n_int boot_int (pa_cons (pe_ix ix_list (pv 0) pe_int (fun _ _ => rfl)) pa_nil)))
      (pss_cons (ps_asg (pe_op op_mod (pe_callTy call_int1 (by rfl) T.n_int boot_int (pa_cons (pe_op op_add (pe_op op_add (pe_op op_add (pe_op op_mul (pe_op op_mul (pv 4) (pv 4)) pe_int) (pe_op op_mul (pv 4) pe_int)) (pe_op op_mul (pe_ix ix_list (pv 0) pe_int (fun _ _ => rfl)) pe_int)) pe_int) pa_nil)) pe_int) (pg_sub (pv 0) pe_int set_list))
      (pss_one (ps_ret (pe_op op_mod (pe_callTy call_int1 (by rfl) T.n_int boot_int (pa_cons (pe_op op_add (pe_op op_fdiv (pe_ix ix_list (pv 0) pe_int (fun _ _ => rfl)) pe_int) (pe_op op_mul (pe_op op_mod (pe_callTy call_int1 (by rfl) T.n_int boot_int (pa_cons (pe_ix ix_list (pv 0) pe_int (fun _ _ => rfl)) pa_nil)) pe_int) pe_int)) pa_nil)) (pv 1))))))))), ?_⟩
    -- bag[4] = bag[4] + 1
    refine ⟨.ref b, rfl, b, _, 4, .int n, rfl, rfl, SqL.of hb, atI_nat (j := 4) rfl, n, 1, rfl, rfl, .ref b, rfl, b, _, 4, 4, rfl, rfl, hb, rfl, ?_⟩
    refine ⟨fun σ' H' => ∃ (y2 : Option V), σ' = [some (.ref b), some (.int d), y2, none, none] ∧ Stp b H H' ∧ Bag H' b l, ?_, ?_⟩
    · have hb1 : (upd H b (.lst ([V.ref l, .int i, .int r, .int m, .int n].set 4 (.int (n + 1))))) b = some (.lst [.ref l, .int i, .int r, .int m, .int (n + 1)]) := upd_same
      have hl1 : (upd H b (.lst ([V.ref l, .int i, .int r, .int m, .int n].set 4 (.int (n + 1))))) l = some (.lst (ns.map V.int)) := by
        rw [upd_ne nlb]
        exact hl
      have s1 : Stp b H (upd H b (.lst ([V.ref l, .int i, .int r, .int m, .int n].set 4 (.int (n + 1))))) := Stp.put
      generalize upd H b (.lst ([V.ref l, .int i, .int r, .int m, .int n].set 4 (.int (n + 1)))) = H1 at hb1 hl1 s1 ⊢
      have B1 : Bag H1 b l := ⟨ns, i, r, m, n + 1, hb1, hl1, nlb, hlen, r0, m0, m1⟩
      -- if bag[2] == 0 and bag[1] < len(bag[0])
      refine ⟨.ref b, rfl, b, _, 2, .int r, rfl, rfl, SqL.of hb1, atI_nat (j := 2) rfl, rfl, _, rfl, ?_⟩
      refine ite2 (fun _ => ?_) (fun _ => ?_)
      · refine ⟨.ref b, rfl, b, _, 1, .int i, rfl, rfl, SqL.of hb1, atI_nat (j := 1) rfl, .ref b, rfl, b, _, 0, .ref l, rfl, rfl, SqL.of hb1, atI_nat (j := 0) rfl, .ref l, ns.length, rfl, .inl ⟨_, SqL.of hl1, by rw [List.length_map]⟩, _, _, rfl, rfl, _, rfl, ?_⟩
        refine ite2 (fun hi => ?_) (fun _ => ?_)
        · have hi' : i < ns.length := by
            have q := of_decide_eq_true hi
            omega
          have gi : atI (ns.map V.int) (i : Int) = some (.int ns[i]) := atI_nat (by rw [List.getElem?_map, List.getElem?_eq_getElem hi']; rfl)
          -- piled = int(bag[0][bag[1]])
          refine ⟨.ref b, rfl, b, _, 0, .ref l, rfl, rfl, SqL.of hb1, atI_nat (j := 0) rfl, .ref b, rfl, b, _, 1, .int i, rfl, rfl, SqL.of hb1, atI_nat (j := 1) rfl, l, _, _, _, rfl, rfl, SqL.of hl1, gi, .inl ⟨_, rfl, ?_⟩⟩
          -- bag[1] = bag[1] + 1
          refine ⟨.ref b, rfl, b, _, 1, .int i, rfl, rfl, SqL.of hb1, atI_nat (j := 1) rfl, i, 1, rfl, rfl, .ref b, rfl, b, _, 1, 1, rfl, rfl, hb1, rfl, ?_⟩
          have hb2 : (upd H1 b (.lst ([V.ref l, .int i, .int r, .int m, .int (n + 1)].set 1 (.int (i + 1))))) b = some (.lst [.ref l, .int ((i + 1 : Nat) : Int), .int r, .int m, .int (n + 1)]) := upd_same
          have hl2 : (upd H1 b (.lst ([V.ref l, .int i, .int r, .int m, .int (n + 1)].set 1 (.int (i + 1))))) l = some (.lst (ns.map V.int)) := by
            rw [upd_ne nlb]
            exact hl1
          have s2 : Stp b H (upd H1 b (.lst ([V.ref l, .int i, .int r, .int m, .int (n + 1)].set 1 (.int (i + 1))))) := s1.trans Stp.put
          generalize upd H1 b (.lst ([V.ref l, .int i, .int r, .int m, .int (n + 1)].set 1 (.int (i + 1)))) = H2 at hb2 hl2 s2 ⊢
          -- if abs(piled) >= 10 ** 18
          refine ⟨.int ns[i], rfl, _, rfl, 10, 18, rfl, rfl, ⟨by decide, by decide, by decide⟩, _, _, rfl, rfl, _, rfl, ?_⟩
          refine ite2 (fun _ => ?_) (fun _ => ?_)
          · refine ⟨.int ns[i], rfl, _, rfl, .ref b, rfl, b, _, 2, 2, rfl, rfl, hb2, rfl, ?_⟩
            refine ⟨_, rfl, s2.trans Stp.put, ns, i + 1, _, m, n + 1, upd_same, ?_, nlb, hlen, ?_, m0, m1⟩
            · rw [upd_ne nlb]
              exact hl2
            · show 0 ≤ (if ns[i] < 0 then -ns[i] else ns[i])
              split <;> omega
          · refine ⟨.ref b, rfl, b, _, 3, .int m, rfl, rfl, SqL.of hb2, atI_nat (j := 3) rfl, _, _, rfl, rfl, .inr ⟨by decide, by decide⟩, .int ns[i], rfl, .inl ⟨_, rfl, _, _, rfl, rfl, (by show (0 : Int) < 1000639; decide), _, _, rfl, rfl, .inr ⟨by decide, by decide⟩, _, _, rfl, rfl, _, _, rfl, rfl, .inl ⟨_, rfl, _, _, rfl, rfl, (by show (0 : Int) < 2147483587; decide), .ref b, rfl, b, _, 3, 3, rfl, rfl, hb2, rfl, ?_⟩⟩⟩
            refine ⟨_, rfl, s2.trans Stp.put, ns, i + 1, r, _, n + 1, upd_same, ?_, nlb, hlen, r0, Int.emod_nonneg _ (by decide), Int.lt_trans (Int.emod_lt_of_pos _ (by decide)) (by decide)⟩
            rw [upd_ne nlb]
            exact hl2
        · exact ⟨_, rfl, s1, B1⟩
      · exact ⟨_, rfl, s1, B1⟩
    · rintro σ' H1 ⟨y2, rfl, s1, ns, i, r, m, n, hb1, hl1, nlb, hlen, r0, m0, m1⟩
      -- if bag[2] > 0
      refine ⟨.ref b, rfl, b, _, 2, .int r, rfl, rfl, SqL.of hb1, atI_nat (j := 2) rfl, _, _, rfl, rfl, _, rfl, ?_⟩
      refine ite2 (fun _ => ?_) (fun _ => ?_)
      · refine ⟨.ref b, rfl, b, _, 2, .int r, rfl, rfl, SqL.of hb1, atI_nat (j := 2) rfl, .inl ⟨_, rfl, .int d, rfl, _, _, rfl, rfl, d0, ?_⟩⟩
        refine ⟨.ref b, rfl, b, _, 2, .int r, rfl, rfl, SqL.of hb1, atI_nat (j := 2) rfl, .int d, rfl, _, _, rfl, rfl, ⟨d0, d1⟩, .ref b, rfl, b, _, 2, 2, rfl, rfl, hb1, rfl, ?_⟩
        refine ⟨_, rfl, k _ _ (s1.trans Stp.put) ⟨ns, i, _, m, n, upd_same, ?_, nlb, hlen, Int.ediv_nonneg r0 (Int.le_of_lt d0), m0, m1⟩ (Int.emod_nonneg _ (by omega)) (Int.emod_lt_of_pos _ d0)⟩
        rw [upd_ne nlb]
        exact hl1
      · -- seed
        refine ⟨.ref b, rfl, b, _, 3, .int m, rfl, rfl, SqL.of hb1, atI_nat (j := 3) rfl, .inl ⟨_, rfl, ?_⟩⟩
        refine ⟨.int m, rfl, .int m, rfl, _, _, rfl, rfl, .inl ⟨by omega, by omega⟩, _, _, rfl, rfl, .inr ⟨by decide, by decide⟩, .int m, rfl, _, _, rfl, rfl, .inr ⟨by decide, by decide⟩, _, _, rfl, rfl,
          .ref b, rfl, b, _, 4, .int n, rfl, rfl, SqL.of hb1, atI_nat (j := 4) rfl, _, _, rfl, rfl, .inr ⟨by decide, by decide⟩, _, _, rfl, rfl, _, _, rfl, rfl, .inl ⟨_, rfl, _, _, rfl, rfl, (by show (0 : Int) < 2147483549; decide), .ref b, rfl, b, _, 3, 3, rfl, rfl, hb1, rfl, ?_⟩⟩
        have hm0 := Int.emod_nonneg (m * m * 19 + m * 47111 + n * 110323 + 60089) (show (2147483549 : Int) ≠ 0 by decide)
        have hm1 := Int.emod_lt_of_pos (m * m * 19 + m * 47111 + n * 110323 + 60089) (show (0 : Int) < 2147483549 by decide)
        have hb2 : (upd H1 b (.lst ([V.ref l, .int i, .int r, .int m, .int n].set 3 (.int ((m * m * 19 + m * 47111 + n * 110323 + 60089) % 2147483549))))) b = some (.lst [.ref l, .int i, .int r, .int ((m * m * 19 + m * 47111 + n * 110323 + 60089) % 2147483549), .int n]) := upd_same
        have hl2 : (upd H1 b (.lst ([V.ref l, .int i, .int r, .int m, .int n].set 3 (.int ((m * m * 19 + m * 47111 + n * 110323 + 60089) % 2147483549))))) l = some (.lst (ns.map V.int)) := by
          rw [upd_ne nlb]
          exact hl1
        have s2 : Stp b H (upd H1 b (.lst ([V.ref l, .int i, .int r, .int m, .int n].set 3 (.int ((m * m * 19 + m * 47111 + n * 110323 + 60089) % 2147483549))))) := s1.trans Stp.put
        generalize upd H1 b (.lst ([V.ref l, .int i, .int r, .int m, .int n].set 3 (.int ((m * m * 19 + m * 47111 + n * 110323 + 60089) % 2147483549)))) = H2 at hb2 hl2 s2 ⊢
        generalize (m * m * 19 + m * 47111 + n * 110323 + 60089) % 2147483549 = m2 at hb2 hm0 hm1 ⊢
        refine ⟨.ref b, rfl, b, _, 3, .int m2, rfl, rfl, SqL.of hb2, atI_nat (j := 3) rfl, _, _, rfl, rfl, ⟨by decide, by decide⟩, .ref b, rfl, b, _, 3, .int m2, rfl, rfl, SqL.of hb2, atI_nat (j := 3) rfl, .inl ⟨_, rfl, _, _, rfl, rfl, (by show (0 : Int) < 8017; decide), _, _, rfl, rfl, .inr ⟨by decide, by decide⟩, _, _, rfl, rfl, .inl ⟨_, rfl, .int d, rfl, _, _, rfl, rfl, d0, ?_⟩⟩⟩
        exact k _ _ s2 ⟨ns, i, r, m2, n, hb2, hl2, nlb, hlen, r0, hm0, by omega⟩ (Int.emod_nonneg _ (by omega)) (Int.emod_lt_of_pos _ d0)
/-! ### _law_of -/
/-- what is drawn from: a text, or a list that is not the bag; P what holds of each thing -/
def Thg (K : PySem.W.Frag) (H : Hp) (b : Addr) (t : V) (Pt : V → Prop) : Prop := (∃ z : Str, t = .str z ∧ 0 < z.cps.size ∧ z.cps.size ≤ 100000 ∧ ∀ c ∈ z.cps.toList, Pt (.str ⟨#[c]⟩)) ∨ ∃ (a : Addr) (xs : List V), t = .ref a ∧ a ≠ b ∧ SqL K H a xs ∧ 0 < xs.length ∧ xs.length ≤ 100000 ∧ ∀ v ∈ xs, Pt v
def sp_law_of (K : PySem.W.Frag) : Sp := fun vs H Q _ => ∃ (b l : Addr) (t : V) (Pt : V → Prop), vs = [.ref b, t] ∧ Bag H b l ∧ Thg K H b t Pt ∧ ∀ (H' : Hp) (v : V), Stp b H H' → Bag H' b l → Pt v → Q v H'
theorem ok_law_of (T : Txt K w mg Z) : FnOk P w K mg base CX0 2 Z.a_law_of Z.d_law_of ["_law_bag_here", "_law_things"] (sp_law_of K) := by
  have G_law_draw : FnOk P w K mg base CX0 1 Z.a_law_draw Z.d_law_draw ["_law_bag_here", "_law_sides"] sp_law_draw := ok_law_draw T
  refine T.F_law_of.ok sc_law_of (fun vs H Q E h => ?_) (fun cdv A outer s H vs Q E hr h => ?_)
  · obtain ⟨b, l, t, Pt, rfl, _⟩ := h
    rfl
  · obtain ⟨b, l, t, Pt, rfl, B, ht, k⟩ := h
    refine ⟨_, (pss_one (ps_ret (pe_ix ix_seq (pv 1) (pe_call G_law_draw (hr.mono (by omega)) (by rfl) T.m_law_draw T.F_law_draw.kp T.b_law_draw .nil pass0 (pa_cons (pv 0) (pa_cons (pe_callB call_len (by rfl) T.n_len boot_len (pa_cons (pv 1) pa_nil)) pa_nil))) (fun _ _ => rfl)))), ?_⟩
    rcases ht with ⟨z, rfl, z0, z1, hz⟩ | ⟨a, xs, rfl, nab, hx, x0, x1, hv⟩
    · refine ⟨_, rfl, .ref b, rfl, .str z, rfl, .str z, z.cps.size, rfl, ⟨Nat.le_trans z1 (by decide), rfl⟩, b, l, _, rfl, B, by omega, by omega, fun H' v s1 B1 v0 v1 => ?_⟩
      obtain ⟨c, hc, hm⟩ := mem_at (xs := z.cps.toList) v0 (by simpa using v1)
      exact .inr (.inr ⟨z, v, c, rfl, rfl, Nat.le_trans z1 (by decide), hc, k _ _ s1 B1 (hz c hm)⟩)
    · refine ⟨_, rfl, .ref b, rfl, .ref a, rfl, .ref a, xs.length, rfl, .inl ⟨_, hx, rfl⟩, b, l, _, rfl, B, by omega, by omega, fun H' v s1 B1 v0 v1 => ?_⟩
      obtain ⟨c, hc, hm⟩ := mem_at (xs := xs) v0 v1
      exact .inl ⟨a, xs, v, c, rfl, rfl, s1.sqL nab hx, hc, k _ _ s1 B1 (hv c hm)⟩
end

theorem iteN {p A B : Prop} [Decidable p] (h : ¬ p) (q : B) : if decide p = true then A else B := by
  rw [decide_eq_false h]
  exact iteF q
theorem iteY {p A B : Prop} [Decidable p] (h : p) (q : A) : if decide p = true then A else B := by
  rw [decide_eq_true h]
  exact iteT q
theorem Same.put {H H' : Hp} {p : Addr} {o : HO} (s : Same H H') (h : H p = none) : Same H (upd H' p o) := fun a u e => by
  rw [upd_ne (ne_of_none e h)]
  exact s a u e
theorem Same.sqT {K : PySem.W.Frag} {H H' : Hp} {a : Addr} {xs : List V} (e : Same H H') (h : SqT K H a xs) : SqT K H' a xs := by
  rcases h with (h | ⟨o, h⟩) | h
  · exact .inl (.inl (e _ _ h))
  · exact .inl (.inr ⟨o, e _ _ h⟩)
  · exact .inr h
theorem tyx_l {K : PySem.W.Frag} {H : Hp} {a : Addr} {xs : List V} (h : SqL K H a xs) : TyX K H (.ref a) (.type "list") := by
  rcases h with (h | ⟨o, h⟩) | ⟨o, its, n, h, hc, _⟩
  · exact .base (.lst h)
  · exact .base (.frz h)
  · exact .kList h hc
theorem tyx_t {K : PySem.W.Frag} {H : Hp} {a : Addr} {xs : List V} (h : SqT K H a xs) : TyX K H (.ref a) (.type "tuple") := by
  rcases h with (h | ⟨o, h⟩) | ⟨o, its, n, h, hc, _⟩
  · exact .base (.tup h)
  · exact .fTuple h
  · exact .kTuple h hc
/-- the name of a flat value's type -/
def flatT : V → String
  | .bl _ => "bool"
  | .int _ => "int"
  | .str _ => "str"
  | _ => "NoneType"
theorem tyx_f {K : PySem.W.Frag} {H : Hp} {x : V} (h : flatV x = true) : TyX K H x (.type (flatT x)) := by
  cases x with
  | non => exact .base .non
  | bl b => exact .base (.bl b)
  | int i => exact .base (.int i)
  | str z => exact .base (.str z)
  | _ => cases h
theorem walk_zipT {K : PySem.W.Frag} {a b : Addr} {xs ys : List V} {n : Nat} (hn : n = min xs.length ys.length) : Walk (RZ.ItzT K a b) n (fun H => SqT K H a xs ∧ SqT K H b ys) (YPair (fun i => xs[i]?) (fun i => ys[i]?)) := by
  subst hn
  refine ⟨fun i _ hi q => ?_, fun _ q => ⟨xs, ys, q.1, q.2, by omega⟩, fun i H v H' _ q y => ?_⟩
  · have h1 : i < xs.length := by omega
    have h2 : i < ys.length := by omega
    exact ⟨xs, ys, xs[i], ys[i], q.1, q.2, by simp [h1], by simp [h2]⟩
  · obtain ⟨T, x, z, h1, h2, h3, h4, h5⟩ := y
    exact ⟨T, x, z, h1, h2, h3, h4 xs q.1, h5 ys q.2⟩
theorem all_rep (n : Nat) : (List.replicate n true).all id = true := by
  rw [List.all_eq_true]
  intro x hx
  rw [(List.mem_replicate.mp hx).2]
  rfl
/-- two values that are the same data, n deep at most -/
def Eqd (K : PySem.W.Frag) (H : Hp) : Nat → V → V → Prop
  | 0, x, y => flatV x = true ∧ x = y
  | n + 1, x, y => (flatV x = true ∧ x = y) ∨ ∃ (a b : Addr) (xs ys : List V), x = .ref a ∧ y = .ref b ∧ ((SqL K H a xs ∧ SqL K H b ys) ∨ (SqT K H a xs ∧ SqT K H b ys)) ∧ xs.length = ys.length ∧ xs.length ≤ 100000 ∧ ∀ (i : Nat) (u v : V), xs[i]? = some u → ys[i]? = some v → Eqd K H n u v
theorem Eqd.same {K : PySem.W.Frag} {H H' : Hp} (s : Same H H') : ∀ {n : Nat} {x y : V}, Eqd K H n x y → Eqd K H' n x y
  | 0, _, _, h => h
  | n + 1, _, _, .inl h => .inl h
  | n + 1, _, _, .inr ⟨a, b, xs, ys, e1, e2, h, hl, hz, hi⟩ => .inr ⟨a, b, xs, ys, e1, e2, by
      rcases h with ⟨h1, h2⟩ | ⟨h1, h2⟩
      · exact .inl ⟨s.seq h1, s.seq h2⟩
      · exact .inr ⟨Same.sqT s h1, Same.sqT s h2⟩, hl, hz, fun i u v hu hv => (hi i u v hu hv).same s⟩
theorem Eqd.flat {K : PySem.W.Frag} {H : Hp} {n : Nat} {x : V} (h : flatV x = true) : Eqd K H n x x := by
  cases n with
  | zero => exact ⟨h, rfl⟩
  | succ n => exact .inl ⟨h, rfl⟩
theorem kitLT {K : PySem.W.Frag} {T : String} (h1 : kitB T "list" = some false) (h2 : kitB T "tuple" = some false) : PySem.W.kitAny K (.type T) [.type "list", .type "tuple"] = some false :=
  kitAny_cons (b := false) (kit_ty h1) (fun _ => kitAny_cons (b := false) (kit_ty h2) (fun _ => kitAny_nil) fun e => nomatch e) fun e => nomatch e
theorem kitLl {K : PySem.W.Frag} : PySem.W.kitAny K (.type "list") [.type "list", .type "tuple"] = some true :=
  kitAny_cons (b := true) (kit_ty (by decide +kernel)) (fun e => nomatch e) fun _ => rfl
theorem kitLt {K : PySem.W.Frag} : PySem.W.kitAny K (.type "tuple") [.type "list", .type "tuple"] = some true :=
  kitAny_cons (b := false) (kit_ty (by decide +kernel)) (fun _ => kitAny_cons (b := true) (kit_ty (by decide +kernel)) (fun e => nomatch e) fun _ => rfl) fun e => nomatch e

section
variable {P : Program} {w : World} {K : PySem.W.Frag} {mg : Str → Option Value} {base : Heap} {Z : Fs}
/-! ### _law_same -/
def sp_law_same (K : PySem.W.Frag) (n : Nat) : Sp := fun vs H Q _ => ∃ x y : V, vs = [x, y] ∧ Eqd K H n x y ∧ ∀ H' : Hp, Same H H' → Q (.bl true) H'
theorem ok_law_same (T : Txt K w mg Z) : ∀ n : Nat, FnOk P w K mg base CX0 (n + 1) Z.a_law_same Z.d_law_same ["_law_found", "_law_due"] (sp_law_same K n)
  | 0 => by
    refine T.F_law_same.ok sc_law_same (fun vs H Q E h => ?_) (fun cdv A outer s H vs Q E hr h => ?_)
    · obtain ⟨x, y, rfl, _⟩ := h
      rfl
    · obtain ⟨x, y, rfl, ⟨hf, rfl⟩, k⟩ := h
      refine ⟨_, (pss_cons (ps_if (PW.pt (pw_or (pt_cmp (pc_isN (pv 1))) (pw_or1 (pt_cmp (pc_isN (pv 0)))))) (pss_one (ps_ret (pe_and (pe_cmp (pc_isN (pv 1)) rfl) (pe_one (pe_cmp (pc_isN (pv 0)) rfl))))) pss_nil)
      (pss_cons (ps_if (pt_val (pe_callB call_isiT (by rfl) T.n_isinstance boot_isinstance (pa_cons (pv 1) (pa_cons (pe_tup (pa_cons (pe_bltn (v := .ty "list") (by rfl) T.n_list boot_list rfl) (pa_cons (pe_bltn (v := .ty "tuple") (by rfl) T.n_tuple boot_tuple rfl) pa_nil))) pa_nil)))) pss_never pss_nil)
      (pss_cons (ps_if (PW.pt (pw_or (pt_cmpR op_ne (pe_callB call_isi (by rfl) T.n_isinstance boot_isinstance (pa_cons (pv 1) (pa_cons (pe_bltn (v := .ty "bool") (by rfl) T.n_bool boot_bool rfl) pa_nil))) (pe_callB call_isi (by rfl) T.n_isinstance boot_isinstance (pa_cons (pv 0) (pa_cons (pe_bltn (v := .ty "bool") (by rfl) T.n_bool boot_bool rfl) pa_nil))) (nomark _)) (pw_or1 (pt_cmpR op_ne (pe_callB call_isi (by rfl) T.n_isinstance boot_isinstance (pa_cons (pv 1) (pa_cons (pe_bltn (v := .ty "int") (by rfl) T.n_int boot_int rfl) pa_nil))) (pe_callB call_isi (by rfl) T.n_isinstance boot_isinstance (pa_cons (pv 0) (pa_cons (pe_bltn (v := .ty "int") (by rfl) T.n_int boot_int rfl) pa_nil))) (nomark _))))) (pss_one (ps_ret pe_bl)) pss_nil)
      (pss_one (ps_ret (pe_and (pe_cmpR op_eq (pe_callB call_isi (by rfl) T.n_isinstance boot_isinstance (pa_cons (pv 1) (pa_cons (pe_bltn (v := .ty "str") (by rfl) T.n_str boot_str rfl) pa_nil))) (pe_callB call_isi (by rfl) T.n_isinstance boot_isinstance (pa_cons (pv 0) (pa_cons (pe_bltn (v := .ty "str") (by rfl) T.n_str boot_str rfl) pa_nil))) (nomark _)) (pe_one (pe_cmpR op_eq (pv 0) (pv 1) (nomark _))))))))), ?_⟩
      cases x with
      | non => exact ⟨.non, rfl, _, rfl, iteY rfl ⟨.non, rfl, _, rfl, iteY rfl ⟨.non, rfl, k _ (Same.refl _)⟩⟩⟩
      | bl v =>
        refine ⟨.bl v, rfl, _, rfl, iteN (fun e => nomatch e) ⟨.bl v, rfl, _, rfl, iteN (fun e => nomatch e) ?_⟩⟩
        refine ⟨.bl v, rfl, (by show 2 ≤ sizeLine; decide), fun p hp => ⟨.bl v, p, _, _, _, false, rfl, upd_same, .cons (.ty _) (.cons (.ty _) .nil), .base (.bl v), kitLT (by decide +kernel) (by decide +kernel), _, rfl, iteF ?_⟩⟩
        refine ⟨.bl v, rfl, .bl v, .ty "bool", _, _, true, rfl, .ty _, .base (.bl v), kit_ty (by decide +kernel), .bl v, rfl, .bl v, .ty "bool", _, _, true, rfl, .ty _, .base (.bl v), kit_ty (by decide +kernel), rfl, _, rfl, iteNS rfl ?_⟩
        refine ⟨.bl v, rfl, .bl v, .ty "int", _, _, true, rfl, .ty _, .base (.bl v), kit_ty (by decide +kernel), .bl v, rfl, .bl v, .ty "int", _, _, true, rfl, .ty _, .base (.bl v), kit_ty (by decide +kernel), rfl, _, rfl, iteNS rfl ?_⟩
        refine ⟨.bl v, rfl, .bl v, .ty "str", _, _, false, rfl, .ty _, .base (.bl v), kit_ty (by decide +kernel), .bl v, rfl, .bl v, .ty "str", _, _, false, rfl, .ty _, .base (.bl v), kit_ty (by decide +kernel), rfl, _, rfl, iteY rfl ?_⟩
        refine ⟨.bl v, rfl, .bl v, rfl, rfl, ?_⟩
        show Q (.bl (decide (V.bl v = V.bl v))) _
        rw [decide_eq_true rfl]
        exact k _ (Same.new hp)
      | int v =>
        refine ⟨.int v, rfl, _, rfl, iteN (fun e => nomatch e) ⟨.int v, rfl, _, rfl, iteN (fun e => nomatch e) ?_⟩⟩
        refine ⟨.int v, rfl, (by show 2 ≤ sizeLine; decide), fun p hp => ⟨.int v, p, _, _, _, false, rfl, upd_same, .cons (.ty _) (.cons (.ty _) .nil), .base (.int v), kitLT (by decide +kernel) (by decide +kernel), _, rfl, iteF ?_⟩⟩
        refine ⟨.int v, rfl, .int v, .ty "bool", _, _, false, rfl, .ty _, .base (.int v), kit_ty (by decide +kernel), .int v, rfl, .int v, .ty "bool", _, _, false, rfl, .ty _, .base (.int v), kit_ty (by decide +kernel), rfl, _, rfl, iteNS rfl ?_⟩
        refine ⟨.int v, rfl, .int v, .ty "int", _, _, true, rfl, .ty _, .base (.int v), kit_ty (by decide +kernel), .int v, rfl, .int v, .ty "int", _, _, true, rfl, .ty _, .base (.int v), kit_ty (by decide +kernel), rfl, _, rfl, iteNS rfl ?_⟩
        refine ⟨.int v, rfl, .int v, .ty "str", _, _, false, rfl, .ty _, .base (.int v), kit_ty (by decide +kernel), .int v, rfl, .int v, .ty "str", _, _, false, rfl, .ty _, .base (.int v), kit_ty (by decide +kernel), rfl, _, rfl, iteY rfl ?_⟩
        refine ⟨.int v, rfl, .int v, rfl, rfl, ?_⟩
        show Q (.bl (decide (V.int v = V.int v))) _
        rw [decide_eq_true rfl]
        exact k _ (Same.new hp)
      | str v =>
        refine ⟨.str v, rfl, _, rfl, iteN (fun e => nomatch e) ⟨.str v, rfl, _, rfl, iteN (fun e => nomatch e) ?_⟩⟩
        refine ⟨.str v, rfl, (by show 2 ≤ sizeLine; decide), fun p hp => ⟨.str v, p, _, _, _, false, rfl, upd_same, .cons (.ty _) (.cons (.ty _) .nil), .base (.str v), kitLT (by decide +kernel) (by decide +kernel), _, rfl, iteF ?_⟩⟩
        refine ⟨.str v, rfl, .str v, .ty "bool", _, _, false, rfl, .ty _, .base (.str v), kit_ty (by decide +kernel), .str v, rfl, .str v, .ty "bool", _, _, false, rfl, .ty _, .base (.str v), kit_ty (by decide +kernel), rfl, _, rfl, iteNS rfl ?_⟩
        refine ⟨.str v, rfl, .str v, .ty "int", _, _, false, rfl, .ty _, .base (.str v), kit_ty (by decide +kernel), .str v, rfl, .str v, .ty "int", _, _, false, rfl, .ty _, .base (.str v), kit_ty (by decide +kernel), rfl, _, rfl, iteNS rfl ?_⟩
        refine ⟨.str v, rfl, .str v, .ty "str", _, _, true, rfl, .ty _, .base (.str v), kit_ty (by decide +kernel), .str v, rfl, .str v, .ty "str", _, _, true, rfl, .ty _, .base (.str v), kit_ty (by decide +kernel), rfl, _, rfl, iteY rfl ?_⟩
        refine ⟨.str v, rfl, .str v, rfl, rfl, ?_⟩
        show Q (.bl (decide (V.str v = V.str v))) _
        rw [decide_eq_true rfl]
        exact k _ (Same.new hp)
      | _ => cases hf
  | n + 1 => by
    have G_law_same : FnOk P w K mg base CX0 (n + 1) Z.a_law_same Z.d_law_same ["_law_found", "_law_due"] (sp_law_same K n) := ok_law_same T n
    refine T.F_law_same.ok sc_law_same (fun vs H Q E h => ?_) (fun cdv A outer s H vs Q E hr h => ?_)
    · obtain ⟨x, y, rfl, _⟩ := h
      rfl
    · obtain ⟨x, y, rfl, hd, k⟩ := h
      refine ⟨_, (pss_cons (ps_if (PW.pt (pw_or (pt_cmp (pc_isN (pv 1))) (pw_or1 (pt_cmp (pc_isN (pv 0)))))) (pss_one (ps_ret (pe_and (pe_cmp (pc_isN (pv 1)) rfl) (pe_one (pe_cmp (pc_isN (pv 0)) rfl))))) pss_nil)
      (pss_cons (ps_if (pt_val (pe_callB call_isiT (by rfl) T.n_isinstance boot_isinstance (pa_cons (pv 1) (pa_cons (pe_tup (pa_cons (pe_bltn (v := .ty "list") (by rfl) T.n_list boot_list rfl) (pa_cons (pe_bltn (v := .ty "tuple") (by rfl) T.n_tuple boot_tuple rfl) pa_nil))) pa_nil)))) (pss_cons (ps_if (PW.pt (pw_or (pt_cmpR op_ne (pe_callB call_isi (by rfl) T.n_isinstance boot_isinstance (pa_cons (pv 0) (pa_cons (pe_bltn (v := .ty "list") (by rfl) T.n_list boot_list rfl) pa_nil))) (pe_callB call_isi (by rfl) T.n_isinstance boot_isinstance (pa_cons (pv 1) (pa_cons (pe_bltn (v := .ty "list") (by rfl) T.n_list boot_list rfl) pa_nil))) (nomark _)) (pw_or1 (pt_cmpR op_ne (pe_callB call_isi (by rfl) T.n_isinstance boot_isinstance (pa_cons (pv 0) (pa_cons (pe_bltn (v := .ty "tuple") (by rfl) T.n_tuple boot_tuple rfl) pa_nil))) (pe_callB call_isi (by rfl) T.n_isinstance boot_isinstance (pa_cons (pv 1) (pa_cons (pe_bltn (v := .ty "tuple") (by rfl) T.n_tuple boot_tuple rfl) pa_nil))) (nomark _))))) (pss_one (ps_ret pe_bl)) pss_nil)
      (pss_one (ps_ret (pe_and (pe_cmpR op_eq (pe_callB call_len (by rfl) T.n_len boot_len (pa_cons (pv 0) pa_nil)) (pe_callB call_len (by rfl) T.n_len boot_len (pa_cons (pv 1) pa_nil)) (nomark _)) (pe_one (pe_callB (cr_all rfl) (by rfl) T.n_all boot_all (pa_cons (pe_lc (own := [("_law_a", 2), ("_law_b", 3)]) (g := gTup K 2 (gCons (gName 2) (gCons (gName 3) gNil))) (tt := tYes) rfl sc_law_same.nd (RZ.pi_zipA (by rfl) T.n_zip (pa_cons (pv 0) (pa_cons (pv 1) pa_nil))) (blkOk_by (N := N_law_same) (sc := defScope s_law_same) (by decide +kernel)) (fun _ _ _ _ _ => pg_tup rfl (pgs_cons (pg_name (i := 2) sc_law_same.nd rfl (Or.inl rfl)) (pgs_cons (pg_name (i := 3) sc_law_same.nd rfl (Or.inl rfl)) pgs_nil))) (fun _ _ _ _ _ => pts_nil) (fun _ _ _ _ _ => (pe_call G_law_same (hr.mono (by omega)) (by rfl) T.m_law_same T.F_law_same.kp T.b_law_same .nil pass0 (pa_cons (pv 2) (pa_cons (pv 3) pa_nil))))) pa_nil))))))) pss_nil)
      (pss_cons (ps_if (PW.pt (pw_or (pt_cmpR op_ne (pe_callB call_isi (by rfl) T.n_isinstance boot_isinstance (pa_cons (pv 1) (pa_cons (pe_bltn (v := .ty "bool") (by rfl) T.n_bool boot_bool rfl) pa_nil))) (pe_callB call_isi (by rfl) T.n_isinstance boot_isinstance (pa_cons (pv 0) (pa_cons (pe_bltn (v := .ty "bool") (by rfl) T.n_bool boot_bool rfl) pa_nil))) (nomark _)) (pw_or1 (pt_cmpR op_ne (pe_callB call_isi (by rfl) T.n_isinstance boot_isinstance (pa_cons (pv 1) (pa_cons (pe_bltn (v := .ty "int") (by rfl) T.n_int boot_int rfl) pa_nil))) (pe_callB call_isi (by rfl) T.n_isinstance boot_isinstance (pa_cons (pv 0) (pa_cons (pe_bltn (v := .ty "int") (by rfl) T.n_int boot_int rfl) pa_nil))) (nomark _))))) (pss_one (ps_ret pe_bl)) pss_nil)
      (pss_one (ps_ret (pe_and (pe_cmpR op_eq (pe_callB call_isi (by rfl) T.n_isinstance boot_isinstance (pa_cons (pv 1) (pa_cons (pe_bltn (v := .ty "str") (by rfl) T.n_str boot_str rfl) pa_nil))) (pe_callB call_isi (by rfl) T.n_isinstance boot_isinstance (pa_cons (pv 0) (pa_cons (pe_bltn (v := .ty "str") (by rfl) T.n_str boot_str rfl) pa_nil))) (nomark _)) (pe_one (pe_cmpR op_eq (pv 0) (pv 1) (nomark _))))))))), ?_⟩
      rcases hd with ⟨hf, rfl⟩ | ⟨a, b, xs, ys, rfl, rfl, hd, hl, hz, hi⟩
      · cases x with
        | non => exact ⟨.non, rfl, _, rfl, iteY rfl ⟨.non, rfl, _, rfl, iteY rfl ⟨.non, rfl, k _ (Same.refl _)⟩⟩⟩
        | bl v =>
          refine ⟨.bl v, rfl, _, rfl, iteN (fun e => nomatch e) ⟨.bl v, rfl, _, rfl, iteN (fun e => nomatch e) ?_⟩⟩
          refine ⟨.bl v, rfl, (by show 2 ≤ sizeLine; decide), fun p hp => ⟨.bl v, p, _, _, _, false, rfl, upd_same, .cons (.ty _) (.cons (.ty _) .nil), .base (.bl v), kitLT (by decide +kernel) (by decide +kernel), _, rfl, iteF ?_⟩⟩
          refine ⟨.bl v, rfl, .bl v, .ty "bool", _, _, true, rfl, .ty _, .base (.bl v), kit_ty (by decide +kernel), .bl v, rfl, .bl v, .ty "bool", _, _, true, rfl, .ty _, .base (.bl v), kit_ty (by decide +kernel), rfl, _, rfl, iteNS rfl ?_⟩
          refine ⟨.bl v, rfl, .bl v, .ty "int", _, _, true, rfl, .ty _, .base (.bl v), kit_ty (by decide +kernel), .bl v, rfl, .bl v, .ty "int", _, _, true, rfl, .ty _, .base (.bl v), kit_ty (by decide +kernel), rfl, _, rfl, iteNS rfl ?_⟩
          refine ⟨.bl v, rfl, .bl v, .ty "str", _, _, false, rfl, .ty _, .base (.bl v), kit_ty (by decide +kernel), .bl v, rfl, .bl v, .ty "str", _, _, false, rfl, .ty _, .base (.bl v), kit_ty (by decide +kernel), rfl, _, rfl, iteY rfl ?_⟩
          refine ⟨.bl v, rfl, .bl v, rfl, rfl, ?_⟩
          show Q (.bl (decide (V.bl v = V.bl v))) _
          rw [decide_eq_true rfl]
          exact k _ (Same.new hp)
        | int v =>
          refine ⟨.int v, rfl, _, rfl, iteN (fun e => nomatch e) ⟨.int v, rfl, _, rfl, iteN (fun e => nomatch e) ?_⟩⟩
          refine ⟨.int v, rfl, (by show 2 ≤ sizeLine; decide), fun p hp => ⟨.int v, p, _, _, _, false, rfl, upd_same, .cons (.ty _) (.cons (.ty _) .nil), .base (.int v), kitLT (by decide +kernel) (by decide +kernel), _, rfl, iteF ?_⟩⟩
          refine ⟨.int v, rfl, .int v, .ty "bool", _, _, false, rfl, .ty _, .base (.int v), kit_ty (by decide +kernel), .int v, rfl, .int v, .ty "bool", _, _, false, rfl, .ty _, .base (.int v), kit_ty (by decide +kernel), rfl, _, rfl, iteNS rfl ?_⟩
          refine ⟨.int v, rfl, .int v, .ty "int", _, _, true, rfl, .ty _, .base (.int v), kit_ty (by decide +kernel), .int v, rfl, .int v, .ty "int", _, _, true, rfl, .ty _, .base (.int v), kit_ty (by decide +kernel), rfl, _, rfl, iteNS rfl ?_⟩
          refine ⟨.int v, rfl, .int v, .ty "str", _, _, false, rfl, .ty _, .base (.int v), kit_ty (by decide +kernel), .int v, rfl, .int v, .ty "str", _, _, false, rfl, .ty _, .base (.int v), kit_ty (by decide +kernel), rfl, _, rfl, iteY rfl ?_⟩
          refine ⟨.int v, rfl, .int v, rfl, rfl, ?_⟩
          show Q (.bl (decide (V.int v = V.int v))) _
          rw [decide_eq_true rfl]
          exact k _ (Same.new hp)
        | str v =>
          refine ⟨.str v, rfl, _, rfl, iteN (fun e => nomatch e) ⟨.str v, rfl, _, rfl, iteN (fun e => nomatch e) ?_⟩⟩
          refine ⟨.str v, rfl, (by show 2 ≤ sizeLine; decide), fun p hp => ⟨.str v, p, _, _, _, false, rfl, upd_same, .cons (.ty _) (.cons (.ty _) .nil), .base (.str v), kitLT (by decide +kernel) (by decide +kernel), _, rfl, iteF ?_⟩⟩
          refine ⟨.str v, rfl, .str v, .ty "bool", _, _, false, rfl, .ty _, .base (.str v), kit_ty (by decide +kernel), .str v, rfl, .str v, .ty "bool", _, _, false, rfl, .ty _, .base (.str v), kit_ty (by decide +kernel), rfl, _, rfl, iteNS rfl ?_⟩
          refine ⟨.str v, rfl, .str v, .ty "int", _, _, false, rfl, .ty _, .base (.str v), kit_ty (by decide +kernel), .str v, rfl, .str v, .ty "int", _, _, false, rfl, .ty _, .base (.str v), kit_ty (by decide +kernel), rfl, _, rfl, iteNS rfl ?_⟩
          refine ⟨.str v, rfl, .str v, .ty "str", _, _, true, rfl, .ty _, .base (.str v), kit_ty (by decide +kernel), .str v, rfl, .str v, .ty "str", _, _, true, rfl, .ty _, .base (.str v), kit_ty (by decide +kernel), rfl, _, rfl, iteY rfl ?_⟩
          refine ⟨.str v, rfl, .str v, rfl, rfl, ?_⟩
          show Q (.bl (decide (V.str v = V.str v))) _
          rw [decide_eq_true rfl]
          exact k _ (Same.new hp)
        | _ => cases hf
      · refine ⟨.ref b, rfl, _, rfl, iteN (fun e => nomatch e) ⟨.ref a, rfl, _, rfl, iteN (fun e => nomatch e) ?_⟩⟩
        rcases hd with ⟨h1, h2⟩ | ⟨h1, h2⟩
        · refine ⟨.ref b, rfl, (by show 2 ≤ sizeLine; decide), fun p hp => ?_⟩
          have s1 : Same H (upd H p (.tup [.ty "list", .ty "tuple"])) := Same.new hp
          refine ⟨.ref b, p, _, _, _, true, rfl, upd_same, .cons (.ty _) (.cons (.ty _) .nil), tyx_l (s1.seq h2), kitLl, _, rfl, iteT ?_⟩
          generalize upd H p (.tup [.ty "list", .ty "tuple"]) = H1 at s1 ⊢
          have g1 := s1.seq h1
          have g2 := s1.seq h2
          refine ⟨.ref a, rfl, .ref a, .ty "list", _, _, true, rfl, .ty _, tyx_l g1, kit_ty (by decide +kernel), .ref b, rfl, .ref b, .ty "list", _, _, true, rfl, .ty _, tyx_l g2, kit_ty (by decide +kernel), rfl, _, rfl, iteNS rfl ?_⟩
          refine ⟨.ref a, rfl, .ref a, .ty "tuple", _, _, false, rfl, .ty _, tyx_l g1, kit_ty (by decide +kernel), .ref b, rfl, .ref b, .ty "tuple", _, _, false, rfl, .ty _, tyx_l g2, kit_ty (by decide +kernel), rfl, _, rfl, iteNS rfl ?_⟩
          refine ⟨.ref a, rfl, .ref a, _, rfl, .inl ⟨_, g1, rfl⟩, .ref b, rfl, .ref b, _, rfl, .inl ⟨_, g2, rfl⟩, rfl, _, rfl, iteY (by rw [hl]) ?_⟩
          refine ⟨.ref a, rfl, .ref b, rfl, a, b, xs, ys, rfl, .inl ⟨g1, g2, fun D hD => ?_⟩⟩
          have hD0 : H D = none := s1.free hD
          refine lc_it (walk_zip (K := K) (xs := xs) (ys := ys) (n := xs.length) (by omega)) (fun i H' => Same H H' ∧ H' D = some (.lst ((List.replicate i true).map V.bl))) ⟨Same.put s1 hD0, upd_same⟩ (fun i H' _ q => ⟨q.1.seq h1, q.1.seq h2⟩) ?_ ?_
          · rintro i v H2 H3 hi' ⟨s2, e2⟩ ⟨T, u, t, rfl, hT, rfl, hu, ht⟩
            refine ⟨T, [u, t], rfl, SqT.of upd_same, rfl, u, [t], rfl, t, [], rfl, rfl, rfl, u, rfl, t, rfl, u, t, rfl, ((hi i u t hu ht).same s2).same (Same.new hT), fun H4 s4 => ?_⟩
            have nDT : D ≠ T := ne_of_none e2 hT
            refine ⟨_, s4 _ _ (by rw [upd_ne nDT]; exact e2), ?_, (Same.put ((s2.trans (Same.new hT)).trans s4) hD0), ?_⟩
            · rw [List.length_map, List.length_replicate]
              exact Nat.lt_of_lt_of_le hi' (Nat.le_trans hz (by decide))
            · rw [upd_same, List.replicate_succ', List.map_append]
              rfl
          · rintro H' ⟨s2, e2⟩
            refine ⟨D, List.replicate xs.length true, rfl, SqL.of e2, ?_⟩
            rw [all_rep]
            exact k _ s2
        · refine ⟨.ref b, rfl, (by show 2 ≤ sizeLine; decide), fun p hp => ?_⟩
          have s1 : Same H (upd H p (.tup [.ty "list", .ty "tuple"])) := Same.new hp
          refine ⟨.ref b, p, _, _, _, true, rfl, upd_same, .cons (.ty _) (.cons (.ty _) .nil), tyx_t (Same.sqT s1 h2), kitLt, _, rfl, iteT ?_⟩
          generalize upd H p (.tup [.ty "list", .ty "tuple"]) = H1 at s1 ⊢
          have g1 := Same.sqT s1 h1
          have g2 := Same.sqT s1 h2
          refine ⟨.ref a, rfl, .ref a, .ty "list", _, _, false, rfl, .ty _, tyx_t g1, kit_ty (by decide +kernel), .ref b, rfl, .ref b, .ty "list", _, _, false, rfl, .ty _, tyx_t g2, kit_ty (by decide +kernel), rfl, _, rfl, iteNS rfl ?_⟩
          refine ⟨.ref a, rfl, .ref a, .ty "tuple", _, _, true, rfl, .ty _, tyx_t g1, kit_ty (by decide +kernel), .ref b, rfl, .ref b, .ty "tuple", _, _, true, rfl, .ty _, tyx_t g2, kit_ty (by decide +kernel), rfl, _, rfl, iteNS rfl ?_⟩
          refine ⟨.ref a, rfl, .ref a, _, rfl, .inr ⟨_, g1, rfl⟩, .ref b, rfl, .ref b, _, rfl, .inr ⟨_, g2, rfl⟩, rfl, _, rfl, iteY (by rw [hl]) ?_⟩
          refine ⟨.ref a, rfl, .ref b, rfl, a, b, xs, ys, rfl, .inr ⟨g1, g2, fun D hD => ?_⟩⟩
          have hD0 : H D = none := s1.free hD
          refine lc_it (walk_zipT (K := K) (xs := xs) (ys := ys) (n := xs.length) (by omega)) (fun i H' => Same H H' ∧ H' D = some (.lst ((List.replicate i true).map V.bl))) ⟨Same.put s1 hD0, upd_same⟩ (fun i H' _ q => ⟨Same.sqT q.1 h1, Same.sqT q.1 h2⟩) ?_ ?_
          · rintro i v H2 H3 hi' ⟨s2, e2⟩ ⟨T, u, t, rfl, hT, rfl, hu, ht⟩
            refine ⟨T, [u, t], rfl, SqT.of upd_same, rfl, u, [t], rfl, t, [], rfl, rfl, rfl, u, rfl, t, rfl, u, t, rfl, ((hi i u t hu ht).same s2).same (Same.new hT), fun H4 s4 => ?_⟩
            have nDT : D ≠ T := ne_of_none e2 hT
            refine ⟨_, s4 _ _ (by rw [upd_ne nDT]; exact e2), ?_, (Same.put ((s2.trans (Same.new hT)).trans s4) hD0), ?_⟩
            · rw [List.length_map, List.length_replicate]
              exact Nat.lt_of_lt_of_le hi' (Nat.le_trans hz (by decide))
            · rw [upd_same, List.replicate_succ', List.map_append]
              rfl
          · rintro H' ⟨s2, e2⟩
            refine ⟨D, List.replicate xs.length true, rfl, SqL.of e2, ?_⟩
            rw [all_rep]
            exact k _ s2
end

/-! ### values of every kind -/
/-- a text of ordinary size and signs -/
def StrK (z : Str) : Prop := z.cps.size ≤ 100000 ∧ ∀ c ∈ z.cps.toList, c < 1114112
/-- a value of data, n deep at most, none of whose lists is the bag -/
def Okv (K : PySem.W.Frag) (H : Hp) (b : Addr) : Nat → V → Prop
  | 0, v => flatV v = true ∧ ∀ z, v = .str z → StrK z
  | n + 1, v => (flatV v = true ∧ ∀ z, v = .str z → StrK z) ∨ ∃ (a : Addr) (xs : List V), v = .ref a ∧ a ≠ b ∧ (SqL K H a xs ∨ SqT K H a xs) ∧ xs.length ≤ 100000 ∧ ∀ x ∈ xs, Okv K H b n x
theorem Okv.stp {K : PySem.W.Frag} {H H' : Hp} {b : Addr} (s : Stp b H H') : ∀ {n : Nat} {v : V}, Okv K H b n v → Okv K H' b n v
  | 0, _, h => h
  | n + 1, _, .inl h => .inl h
  | n + 1, _, .inr ⟨a, xs, e, ne, h, hl, hx⟩ => .inr ⟨a, xs, e, ne, h.imp (s.sqL ne) (s.sqT ne), hl, fun x m => (hx x m).stp s⟩
theorem Okv.eqd {K : PySem.W.Frag} {H : Hp} {b : Addr} : ∀ {n : Nat} {v : V}, Okv K H b n v → Eqd K H n v v
  | 0, _, h => ⟨h.1, rfl⟩
  | n + 1, _, .inl h => .inl ⟨h.1, rfl⟩
  | n + 1, _, .inr ⟨a, xs, e, _, h, hl, hx⟩ => .inr ⟨a, a, xs, xs, e, e, h.imp (fun q => ⟨q, q⟩) (fun q => ⟨q, q⟩), rfl, hl, fun i u v hu hv => by
      rw [hu] at hv
      cases hv
      exact (hx u (List.mem_of_getElem? hu)).eqd⟩
theorem Okv.of_flat {K : PySem.W.Frag} {H : Hp} {b : Addr} {n : Nat} {v : V} (h : flatV v = true) (hz : ∀ z, v = .str z → StrK z) : Okv K H b n v := by
  cases n with
  | zero => exact ⟨h, hz⟩
  | succ n => exact .inl ⟨h, hz⟩
theorem Okv.non {K : PySem.W.Frag} {H : Hp} {b : Addr} {n : Nat} : Okv K H b n .non := .of_flat rfl (fun _ e => nomatch e)
theorem Okv.bl {K : PySem.W.Frag} {H : Hp} {b : Addr} {n : Nat} {k : Bool} : Okv K H b n (.bl k) := .of_flat rfl (fun _ e => nomatch e)
theorem Okv.int {K : PySem.W.Frag} {H : Hp} {b : Addr} {n : Nat} {i : Int} : Okv K H b n (.int i) := .of_flat rfl (fun _ e => nomatch e)
theorem Okv.str {K : PySem.W.Frag} {H : Hp} {b : Addr} {n : Nat} {z : Str} (h : StrK z) : Okv K H b n (.str z) := .of_flat rfl (fun _ e => by cases e; exact h)
/-- what kind it is -/
def isS : V → Bool
  | .str _ => true
  | _ => false
def isB : V → Bool
  | .bl _ => true
  | _ => false
def isI : V → Bool
  | .int _ => true
  | .bl _ => true
  | _ => false
theorem Okv.ty {K : PySem.W.Frag} {H : Hp} {b : Addr} {n : Nat} {v : V} (h : Okv K H b n v) : ∃ t, TyX K H v t ∧ PySem.W.kitOne K t (.type "str") = some (isS v) ∧ PySem.W.kitOne K t (.type "bool") = some (isB v) ∧ PySem.W.kitOne K t (.type "int") = some (isI v) := by
  have fl : flatV v = true → ∃ t, TyX K H v t ∧ PySem.W.kitOne K t (.type "str") = some (isS v) ∧ PySem.W.kitOne K t (.type "bool") = some (isB v) ∧ PySem.W.kitOne K t (.type "int") = some (isI v) := fun hf => by
    cases v with
    | non => exact ⟨_, .base .non, kit_ty (by decide +kernel), kit_ty (by decide +kernel), kit_ty (by decide +kernel)⟩
    | bl k => exact ⟨_, .base (.bl k), kit_ty (show kitB "bool" "str" = some false by decide +kernel), kit_ty (show kitB "bool" "bool" = some true by decide +kernel), kit_ty (show kitB "bool" "int" = some true by decide +kernel)⟩
    | int i => exact ⟨_, .base (.int i), kit_ty (show kitB "int" "str" = some false by decide +kernel), kit_ty (show kitB "int" "bool" = some false by decide +kernel), kit_ty (show kitB "int" "int" = some true by decide +kernel)⟩
    | str z => exact ⟨_, .base (.str z), kit_ty (show kitB "str" "str" = some true by decide +kernel), kit_ty (show kitB "str" "bool" = some false by decide +kernel), kit_ty (show kitB "str" "int" = some false by decide +kernel)⟩
    | _ => cases hf
  cases n with
  | zero => exact fl h.1
  | succ n =>
    rcases h with h | ⟨a, xs, rfl, _, h | h, _⟩
    · exact fl h.1
    · exact ⟨_, tyx_l h, kit_ty (show kitB "list" "str" = some false by decide +kernel), kit_ty (show kitB "list" "bool" = some false by decide +kernel), kit_ty (show kitB "list" "int" = some false by decide +kernel)⟩
    · exact ⟨_, tyx_t h, kit_ty (show kitB "tuple" "str" = some false by decide +kernel), kit_ty (show kitB "tuple" "bool" = some false by decide +kernel), kit_ty (show kitB "tuple" "int" = some false by decide +kernel)⟩
theorem Okv.strK {K : PySem.W.Frag} {H : Hp} {b : Addr} {n : Nat} {z : Str} (h : Okv K H b n (.str z)) : StrK z := by
  cases n with
  | zero => exact h.2 z rfl
  | succ n =>
    rcases h with h | ⟨a, xs, e, _⟩
    · exact h.2 z rfl
    · cases e
theorem Okv.short {K : PySem.W.Frag} {H : Hp} {b : Addr} {n : Nat} {z : Str} (h : Okv K H b n (.str z)) : z.cps.size ≤ 100000 := h.strK.1
theorem isS_of {v : V} (h : isS v = true) : ∃ z, v = .str z := by
  cases v with
  | str z => exact ⟨z, rfl⟩
  | _ => cases h
/-! ### names and numbers, as plain functions -/
def inL (c : Nat) : Bool := decide (97 ≤ c) && decide (c ≤ 122)
def nmV : V → Bool
  | .str z => decide (1 ≤ z.cps.size) && decide (z.cps.size ≤ 6) && z.cps.toList.all inL
  | _ => false
def numV (v : V) (lo hi : Int) : Bool := match v with
  | .int i => decide (lo ≤ i) && decide (i ≤ hi)
  | _ => false
def regs : List V := [.str "r0", .str "r1", .str "r2"]
def regV (v : V) : Bool := isS v && inV v regs
theorem lt_sign (c d : Nat) : (([c] : List Nat) < [d]) ↔ c < d := by
  constructor
  · intro h
    cases h with
    | rel h => exact h
    | cons h => cases h
  · intro h
    exact .rel h
theorem le_sign (c d : Nat) : (!decide (([c] : List Nat) < [d])) = decide (d ≤ c) := by
  rw [Bool.eq_iff_iff]
  simp [lt_sign]
theorem cps_a : ("a" : Str).cps.toList = [97] := by decide +kernel
theorem cps_z : ("z" : Str).cps.toList = [122] := by decide +kernel
theorem cps_abc : ("abcdefghijklmnopqrstuvwxyz" : Str).cps.toList = List.range' 97 26 := by decide +kernel
theorem in_abc (c : Nat) : decide (c ∈ ("abcdefghijklmnopqrstuvwxyz" : Str).cps.toList) = inL c := by
  rw [cps_abc, Bool.eq_iff_iff]
  simp [inL, List.mem_range'_1]
  omega
/-- what holds of each answer, told ahead: any extension, then the answer -/
theorem take_snoc {α β : Type} (f : α → β) {l : List α} {i : Nat} {x : α} (h : l[i]? = some x) : (l.take (i + 1)).map f = (l.take i).map f ++ [f x] := by
  rw [List.take_add_one, h, List.map_append]
  rfl

/-! ### texts of drawn signs -/
theorem joinL_ones : ∀ cs : List Nat, TL.joinL [] (cs.map fun c => [c]) = cs
  | [] => rfl
  | [_] => rfl
  | c :: d :: r => by
    show [c] ++ ([] ++ TL.joinL [] ((d :: r).map fun c => [c])) = c :: d :: r
    rw [joinL_ones (d :: r)]
    rfl
theorem join_ones (cs : List Nat) : Txt.join ("" : Str) (cs.map fun c => (⟨#[c]⟩ : Str)) = ⟨cs.toArray⟩ := by
  have e : ("" : Str) = SX.S [] := by decide +kernel
  have e2 : (cs.map fun c => (⟨#[c]⟩ : Str)) = (cs.map fun c => [c]).map SX.S := by
    rw [List.map_map]
    rfl
  rw [e, e2, SX.join_S, joinL_ones]
theorem len_ones : ∀ cs : List Nat, ((cs.map fun c => (⟨#[c]⟩ : Str)).map (·.length)).sum = cs.length
  | [] => rfl
  | c :: r => by
    rw [List.map_cons, List.map_cons, List.sum_cons, len_ones r, List.length_cons]
    show 1 + r.length = r.length + 1
    omega
theorem strK_of {cs : List Nat} (hl : cs.length ≤ 100000) (h : ∀ c ∈ cs, c < 1114112) : StrK (⟨cs.toArray⟩ : Str) := ⟨by simpa using hl, by simpa using h⟩
theorem Eqd.lists {K : PySem.W.Frag} {H : Hp} {a b : Addr} {xs : List V} {n : Nat} (h1 : SqL K H a xs) (h2 : SqL K H b xs) (hl : xs.length ≤ 100000) (hf : ∀ x ∈ xs, Eqd K H n x x) : Eqd K H (n + 1) (.ref a) (.ref b) :=
  .inr ⟨a, b, xs, xs, rfl, rfl, .inl ⟨h1, h2⟩, rfl, hl, fun i u v hu hv => by
    rw [hu] at hv
    cases hv
    exact hf u (List.mem_of_getElem? hu)⟩
theorem Eqd.tups {K : PySem.W.Frag} {H : Hp} {a b : Addr} {xs : List V} {n : Nat} (h1 : SqT K H a xs) (h2 : SqT K H b xs) (hl : xs.length ≤ 100000) (hf : ∀ x ∈ xs, Eqd K H n x x) : Eqd K H (n + 1) (.ref a) (.ref b) :=
  .inr ⟨a, b, xs, xs, rfl, rfl, .inr ⟨h1, h2⟩, rfl, hl, fun i u v hu hv => by
    rw [hu] at hv
    cases hv
    exact hf u (List.mem_of_getElem? hu)⟩
/-- a flat value is what it is in any heap -/
theorem Okv.lst0 {K : PySem.W.Frag} {H : Hp} {b a : Addr} {n : Nat} {xs : List V} (ne : a ≠ b) (h : SqL K H a xs) (hl : xs.length ≤ 100000) (hx : ∀ x ∈ xs, Okv K H b n x) : Okv K H b (n + 1) (.ref a) := .inr ⟨a, xs, rfl, ne, .inl h, hl, hx⟩
theorem Okv.tup0 {K : PySem.W.Frag} {H : Hp} {b a : Addr} {n : Nat} {xs : List V} (ne : a ≠ b) (h : SqT K H a xs) (hl : xs.length ≤ 100000) (hx : ∀ x ∈ xs, Okv K H b n x) : Okv K H b (n + 1) (.ref a) := .inr ⟨a, xs, rfl, ne, .inr h, hl, hx⟩
theorem mem1 {α : Type} {P : α → Prop} {x : α} (h : P x) : ∀ y ∈ [x], P y := fun y m => by
  rw [List.mem_singleton.mp m]
  exact h
theorem memc {α : Type} {P : α → Prop} {x : α} {l : List α} (h : P x) (t : ∀ y ∈ l, P y) : ∀ y ∈ x :: l, P y := fun y m => by
  rcases List.mem_cons.mp m with e | m
  · rw [e]
    exact h
  · exact t y m
theorem mem0 {α : Type} {P : α → Prop} : ∀ y ∈ ([] : List α), P y := fun _ m => nomatch m
theorem mema {α : Type} {P : α → Prop} {l r : List α} (h : ∀ y ∈ l, P y) (t : ∀ y ∈ r, P y) : ∀ y ∈ l ++ r, P y := fun y m => by
  rcases List.mem_append.mp m with m | m
  · exact h y m
  · exact t y m
/-- a written text -/
theorem Okv.lit {K : PySem.W.Frag} {H : Hp} {b : Addr} {n : Nat} {z : Str} (h : (decide (z.cps.size ≤ 100000) && z.cps.toList.all fun c => decide (c < 1114112)) = true) : Okv K H b n (.str z) := by
  rw [Bool.and_eq_true] at h
  refine .str ⟨of_decide_eq_true h.1, fun c m => ?_⟩
  have q := List.all_eq_true.mp h.2 c m
  exact of_decide_eq_true q
/-- such a text drawn from -/
theorem Thg.lit {K : PySem.W.Frag} {H : Hp} {b : Addr} {z : Str} (h : (decide (0 < z.cps.size) && decide (z.cps.size ≤ 100000) && z.cps.toList.all fun c => decide (c < 1114112)) = true) : Thg K H b (.str z) (fun v => ∃ c, v = .str ⟨#[c]⟩ ∧ c < 1114112) := by
  rw [Bool.and_eq_true, Bool.and_eq_true] at h
  exact .inl ⟨z, rfl, of_decide_eq_true h.1.1, of_decide_eq_true h.1.2, fun c m => ⟨c, rfl, of_decide_eq_true (List.all_eq_true.mp h.2 c m)⟩⟩
theorem Thg.lst {K : PySem.W.Frag} {H : Hp} {b a : Addr} {xs : List V} {Pt : V → Prop} (ne : a ≠ b) (h : SqL K H a xs) (h0 : 0 < xs.length) (hl : xs.length ≤ 100000) (hx : ∀ v ∈ xs, Pt v) : Thg K H b (.ref a) Pt := .inr ⟨a, xs, rfl, ne, h, h0, hl, hx⟩

/-! ### list of a text -/
theorem call_list_str1 {X : Cx} (hc : X.calm = true) : CallR X (.type "list") (fun xs H Q => ∃ z : Str, xs = [.str z] ∧ z.cps.size ≤ sizeLine ∧ ∀ p, H p = none → Q (.ref p) (upd H p (.lst (z.cps.toList.map fun c => V.str ⟨#[c]⟩)))) := by
  intro pins s σ H xs us Q I r h
  obtain ⟨z, rfl, hz, q⟩ := h
  obtain ⟨u, rfl, t, rfl⟩ := vals1 r
  refine PySem.call_list_str (I.ok.hd hc) z t (fun h' tk acc' c' hk hS' hacc => ?_) hz
  have rv : Vals (z.cps.toList.map fun c => V.str ⟨#[c]⟩) acc'.toList := vals_of_idx _ _ (by simpa using hacc.1) fun j u hj => by
    obtain ⟨c, t2, hc2, rfl⟩ := hacc.2 j u (by simpa using hj)
    exact ⟨.str ⟨#[c]⟩, by simp [hc2], ⟨t2, rfl⟩⟩
  exact ⟨.ref s.heap.objs.size, _, I.laid (t' := tk) hk (Nat.le_refl _) (show ObjOk X.prog X.w _ h' _ (.lst _) from ⟨by simpa using hz, acc'.toList, c', rv, by simpa using hS'⟩), rfl, q _ (I.hok.fresh (Nat.le_refl _))⟩

section
variable {P : Program} {w : World} {K : PySem.W.Frag} {mg : Str → Option Value} {base : Heap} {Z : Fs}
/-! ### is_name -/
def sp_is_name (K : PySem.W.Frag) : Sp := fun vs H Q _ => ∃ (v : V) (b : Addr) (n : Nat), vs = [v] ∧ Okv K H b n v ∧ ∀ H' : Hp, Same H H' → Q (.bl (nmV v)) H'
theorem ok_is_name (T : Txt K w mg Z) : FnOk P w K mg base CX0 1 Z.a_is_name Z.d_is_name ["value"] (sp_is_name K) := by
  refine T.F_is_name.ok sc_is_name (fun vs H Q E h => ?_) (fun cdv A outer s H vs Q E hr h => ?_)
  · obtain ⟨v, b, n, rfl, _⟩ := h
    rfl
  · obtain ⟨v, b, n, rfl, ok, k⟩ := h
    refine ⟨_, (pss_cons (ps_if (PW.pt (pw_or (pt_not (pt_val (pe_callB call_isi (by rfl) T.n_isinstance boot_isinstance (pa_cons (pv 0) (pa_cons (pe_bltn (v := .ty "str") (by rfl) T.n_str boot_str rfl) pa_nil))))) (pw_or1 (pt_not (pt_chain op_le op_le pe_int (pe_callB call_len (by rfl) T.n_len boot_len (pa_cons (pv 0) pa_nil)) (pe_glob (v := .int 6) (by rfl) (Classical.choose_spec T.g_MOST_LETTERS) ⟨_, rfl⟩)))))) (pss_one (ps_ret pe_bl)) pss_nil)
      (pss_one (ps_ret (pe_callB (cr_all rfl) (by rfl) T.n_all boot_all (pa_cons (pe_lc (own := [("letter", 1)]) (g := gName 1) (tt := tYes) rfl sc_is_name.nd (pi_str (pv 0)) (blkOk_by (N := N_is_name) (sc := defScope s_is_name) (by decide +kernel)) (fun _ _ _ _ _ => pg_name (i := 1) sc_is_name.nd rfl (Or.inl rfl)) (fun _ _ _ _ _ => pts_nil) (fun _ _ _ _ _ => (pe_chain op_le_str op_le_str pe_str (pv 1) pe_str))) pa_nil))))), ?_⟩
    obtain ⟨t, ty, kS, _, _⟩ := ok.ty
    refine ⟨v, rfl, v, .ty "str", t, _, _, rfl, .ty _, ty, kS, _, rfl, ?_⟩
    cases hv : isS v with
    | false =>
      refine iteT ?_
      have e : nmV v = false := by
        cases v with
        | str z => cases hv
        | _ => rfl
      show Q (.bl false) H
      rw [← e]
      exact k _ (Same.refl _)
    | true =>
      obtain ⟨z, rfl⟩ := isS_of hv
      refine iteF ?_
      refine ⟨.str z, rfl, .str z, z.cps.size, rfl, ⟨Nat.le_trans ok.short (by decide), rfl⟩, _, _, rfl, rfl, _, rfl, ite2 (fun h1 => ?_) (fun h1 => ?_)⟩
      · have h1' : 1 ≤ z.cps.size := by
          have q := of_decide_eq_true h1
          omega
        refine ⟨_, _, rfl, rfl, _, rfl, ?_⟩
        refine ite2 (fun h2 => ?_) (fun h2 => ?_)
        · have e : nmV (.str z) = false := by
            have q : ¬ z.cps.size ≤ 6 := by
              simp at h2
              omega
            simp [nmV, q]
          show Q (.bl false) H
          rw [← e]
          exact k _ (Same.refl _)
        · have q : z.cps.size ≤ 6 := by
            simp at h2
            omega
          refine ⟨.str z, rfl, z, rfl, fun D hD => ?_⟩
          refine lc_it (walk_str (z := z)) (fun i H' => Same H H' ∧ H' D = some (.lst (((z.cps.toList.take i).map inL).map V.bl))) ⟨Same.new hD, upd_same⟩ (fun _ _ _ _ => True.intro) ?_ ?_
          · rintro i v H2 H3 hi ⟨s2, e2⟩ ⟨rfl, c, hc, rfl⟩
            have hc' : z.cps.toList[i]? = some c := by simpa using hc
            refine ⟨rfl, .str ⟨#[c]⟩, rfl, "a", ⟨#[c]⟩, rfl, rfl, _, rfl, ite2 (fun h3 => ?_) (fun h3 => ?_)⟩
            · refine ⟨⟨#[c]⟩, "z", rfl, rfl, _, e2, ?_, Same.put s2 hD, ?_⟩
              · rw [List.length_map, List.length_map, List.length_take]
                exact Nat.lt_of_le_of_lt (Nat.min_le_left _ _) (Nat.lt_of_lt_of_le hi (Nat.le_trans ok.short (by decide)))
              · rw [upd_same, take_snoc inL hc', List.map_append]
                rw [cps_a, le_sign] at h3
                rw [cps_z]
                have e : (!decide (([122] : List Nat) < (⟨#[c]⟩ : Str).cps.toList)) = inL c := by
                  show (!decide (([122] : List Nat) < [c])) = inL c
                  rw [le_sign]
                  simp only [inL]
                  rw [h3]
                  rfl
                rw [e]
                rfl
            · refine ⟨_, e2, ?_, Same.put s2 hD, ?_⟩
              · rw [List.length_map, List.length_map, List.length_take]
                exact Nat.lt_of_le_of_lt (Nat.min_le_left _ _) (Nat.lt_of_lt_of_le hi (Nat.le_trans ok.short (by decide)))
              · rw [upd_same, take_snoc inL hc', List.map_append]
                rw [cps_a, le_sign] at h3
                have e : false = inL c := by
                  have h4 : decide (97 ≤ c) = false := by simpa using h3
                  simp only [inL]
                  rw [h4]
                  rfl
                rw [← e]
                rfl
          · rintro H' ⟨s2, e2⟩
            refine ⟨D, _, rfl, SqL.of e2, ?_⟩
            have e : ((z.cps.toList.take z.cps.size).map inL).all id = nmV (.str z) := by
              rw [List.take_of_length_le (by simp)]
              simp [nmV, h1', q, List.all_map]
            rw [e]
            exact k _ s2
      · refine ⟨_, rfl, iteT ?_⟩
        have e : nmV (.str z) = false := by
          have q : ¬ 1 ≤ z.cps.size := fun q => h1 (decide_eq_true (by omega))
          simp [nmV, q]
        show Q (.bl false) H
        rw [← e]
        exact k _ (Same.refl _)
end

section
variable {P : Program} {w : World} {K : PySem.W.Frag} {mg : Str → Option Value} {base : Heap} {Z : Fs}
def sp_is_number (K : PySem.W.Frag) : Sp := fun vs H Q _ => ∃ (v : V) (lo hi : Int) (b : Addr) (n : Nat), vs = [v, .int lo, .int hi] ∧ Okv K H b n v ∧ ∀ H' : Hp, Same H H' → Q (.bl (numV v lo hi)) H'
theorem ok_is_number (T : Txt K w mg Z) : FnOk P w K mg base CX0 1 Z.a_is_number Z.d_is_number ["value", "least", "most"] (sp_is_number K) := by
  refine T.F_is_number.ok sc_is_number (fun vs H Q E h => ?_) (fun cdv A outer s H vs Q E hr h => ?_)
  · obtain ⟨v, lo, hi, b, n, rfl, _⟩ := h
    rfl
  · obtain ⟨v, lo, hi, b, n, rfl, ok, k⟩ := h
    refine ⟨_, (pss_cons (ps_if (PW.pt (pw_or (pt_val (pe_callB call_isi (by rfl) T.n_isinstance boot_isinstance (pa_cons (pv 0) (pa_cons (pe_bltn (v := .ty "bool") (by rfl) T.n_bool boot_bool rfl) pa_nil)))) (pw_or1 (pt_not (pt_val (pe_callB call_isi (by rfl) T.n_isinstance boot_isinstance (pa_cons (pv 0) (pa_cons (pe_bltn (v := .ty "int") (by rfl) T.n_int boot_int rfl) pa_nil)))))))) (pss_one (ps_ret pe_bl)) pss_nil)
      (pss_one (ps_ret (pe_chain op_le op_le (pv 1) (pv 0) (pv 2))))), ?_⟩
    obtain ⟨t, ty, _, kB, kI⟩ := ok.ty
    refine ⟨v, rfl, v, .ty "bool", t, _, _, rfl, .ty _, ty, kB, _, rfl, ?_⟩
    have no : (∀ i, v ≠ .int i) → Q (.bl false) H := fun hn => by
      have e : numV v lo hi = false := by
        cases v with
        | int i => exact absurd rfl (hn i)
        | _ => rfl
      rw [← e]
      exact k _ (Same.refl _)
    cases hb : isB v with
    | true =>
      refine iteT (iteT (no fun i e => ?_))
      rw [e] at hb
      cases hb
    | false =>
      refine iteF ?_
      refine ⟨v, rfl, v, .ty "int", t, _, _, rfl, .ty _, ty, kI, _, rfl, ?_⟩
      cases hi' : isI v with
      | false =>
        refine iteT (no fun i e => ?_)
        rw [e] at hi'
        cases hi'
      | true =>
        refine iteF ?_
        obtain ⟨i, rfl⟩ : ∃ i, v = .int i := by
          cases v with
          | int i => exact ⟨i, rfl⟩
          | bl _ => cases hb
          | _ => cases hi'
        refine ⟨.int lo, rfl, .int i, rfl, _, _, rfl, rfl, _, rfl, ite2 (fun h1 => ?_) (fun h1 => ?_)⟩
        · refine ⟨.int hi, rfl, _, _, rfl, rfl, ?_⟩
          have e : numV (.int i) lo hi = decide (i ≤ hi) := by simp [numV, of_decide_eq_true h1]
          show Q (.bl (decide (i ≤ hi))) H
          rw [← e]
          exact k _ (Same.refl _)
        · have e : numV (.int i) lo hi = false := by
            have q : ¬ lo ≤ i := fun q => h1 (decide_eq_true q)
            simp [numV, q]
          show Q (.bl false) H
          rw [← e]
          exact k _ (Same.refl _)
end

section
variable {P : Program} {w : World} {K : PySem.W.Frag} {mg : Str → Option Value} {base : Heap} {Z : Fs}
def sp_is_register (K : PySem.W.Frag) : Sp := fun vs H Q _ => ∃ (v : V) (b : Addr) (n : Nat), vs = [v] ∧ Okv K H b n v ∧ ∀ H' : Hp, Same H H' → Q (.bl (regV v)) H'
theorem ok_is_register (T : Txt K w mg Z) : FnOk P w K mg base CX0 1 Z.a_is_register Z.d_is_register ["value"] (sp_is_register K) := by
  refine T.F_is_register.ok sc_is_register (fun vs H Q E h => ?_) (fun cdv A outer s H vs Q E hr h => ?_)
  · obtain ⟨v, b, n, rfl, _⟩ := h
    rfl
  · obtain ⟨v, b, n, rfl, ok, k⟩ := h
    refine ⟨_, (pss_one (ps_ret (pe_and (pe_callB call_isi (by rfl) T.n_isinstance boot_isinstance (pa_cons (pv 0) (pa_cons (pe_bltn (v := .ty "str") (by rfl) T.n_str boot_str rfl) pa_nil))) (pe_one (pe_cmpR (op_in_seq : OpR _ _ (rIn K false)) (pv 0) (pe_glob (v := .ref Z.c_REGISTERS) (by rfl) T.g_REGISTERS rfl) (by rfl)))))), ?_⟩
    obtain ⟨t, ty, kS, _, _⟩ := ok.ty
    refine ⟨v, rfl, v, .ty "str", t, _, _, rfl, .ty _, ty, kS, _, rfl, ?_⟩
    cases hv : isS v with
    | false =>
      refine iteF ?_
      have e : regV v = false := by simp [regV, hv]
      rw [← e]
      exact k _ (Same.refl _)
    | true =>
      refine iteT ?_
      obtain ⟨z, rfl⟩ := isS_of hv
      refine ⟨.str z, rfl, _, regs, rfl, .inr (T.v_REGISTERS H), rfl, rfl, ?_⟩
      have e : regV (.str z) = inV (.str z) regs := by simp [regV, isS]
      show Q (.bl (inV (.str z) regs)) H
      rw [← e]
      exact k _ (Same.refl _)
end

/-! ### names and rows, as data -/
def Nm (z : Str) : Prop := 1 ≤ z.cps.size ∧ z.cps.size ≤ 6 ∧ z.cps.toList.all inL = true
theorem Nm.strK {z : Str} (h : Nm z) : StrK z := ⟨by have := h.2.1; omega, fun c m => by
  have q := List.all_eq_true.mp h.2.2 c m
  simp only [inL, Bool.and_eq_true, decide_eq_true_eq] at q
  omega⟩
/-- a code row; ts the names it may have -/
inductive CRow (ts : List Str) : List V → Prop where
  | put {r : V} {n : Int} (hr : r ∈ regs) (h0 : 0 ≤ n) (h1 : n ≤ 65535) : CRow ts [.str "put", r, .int n]
  | name {r : V} {t : Str} (hr : r ∈ regs) (ht : t ∈ ts) : CRow ts [.str "name", r, .str t]
  | ifzero {r : V} {t : Str} (hr : r ∈ regs) (ht : t ∈ ts) : CRow ts [.str "ifzero", r, .str t]
  | add {r s : V} (hr : r ∈ regs) (hs : s ∈ regs) : CRow ts [.str "add", r, s]
  | take {r s : V} (hr : r ∈ regs) (hs : s ∈ regs) : CRow ts [.str "take", r, s]
  | load {r s : V} {d : Int} (hr : r ∈ regs) (hs : s ∈ regs) (h0 : 0 ≤ d) (h1 : d ≤ 15) : CRow ts [.str "load", r, s, .int d]
  | store {r s : V} {d : Int} (hr : r ∈ regs) (hs : s ∈ regs) (h0 : 0 ≤ d) (h1 : d ≤ 15) : CRow ts [.str "store", r, s, .int d]
  | jump {t : Str} (ht : t ∈ ts) : CRow ts [.str "jump", .str t]
  | call {t : Str} (ht : t ∈ ts) : CRow ts [.str "call", .str t]
  | callby {r : V} (hr : r ∈ regs) : CRow ts [.str "callby", r]
  | out {r : V} (hr : r ∈ regs) : CRow ts [.str "out", r]
  | back : CRow ts [.str "back"]
  | halt : CRow ts [.str "halt"]
  | room {k : Int} (h0 : 1 ≤ k) (h1 : k ≤ 120) : CRow ts [.str "room", .int k]
/-- a data row -/
inductive DRow (ts : List Str) : List V → Prop where
  | word {n : Int} (h0 : 0 ≤ n) (h1 : n ≤ 65535) : DRow ts [.str "word", .int n]
  | address {t : Str} (ht : t ∈ ts) : DRow ts [.str "address", .str t]
  | room {k : Int} (h0 : 1 ≤ k) (h1 : k ≤ 120) : DRow ts [.str "room", .int k]
theorem Stp.putnew {b p : Addr} {H H' : Hp} {o : HO} (s : Stp b H H') (h : H p = none) : Stp b H (upd H' p o) := fun a u n e => by
  rw [upd_ne (ne_of_none e h)]
  exact s a u n e
theorem cut_to {cs : List Nat} {k : Int} (h : 0 ≤ k) : cutS (⟨cs.toArray⟩ : Str) none (some k) = ⟨(cs.take k.toNat).toArray⟩ := (C8.cutS_slice _ _ _).trans (SX.slice_to h)
theorem cut_from {cs : List Nat} {k : Int} (h : 0 ≤ k) : cutS (⟨cs.toArray⟩ : Str) (some k) none = ⟨(cs.drop k.toNat).toArray⟩ := (C8.cutS_slice _ _ _).trans (SX.slice_from h)
theorem cat_S (a b : List Nat) : (⟨a.toArray⟩ : Str) ++ (⟨b.toArray⟩ : Str) = ⟨(a ++ b).toArray⟩ := SX.S_cat a b
theorem len_S (a : List Nat) : (⟨a.toArray⟩ : Str).length = a.length := SX.S_len a
theorem map_er {α β : Type} (f : α → β) : ∀ (l : List α) (i : Nat), (l.map f).eraseIdx i = (l.eraseIdx i).map f
  | [], _ => rfl
  | _ :: _, 0 => rfl
  | a :: l, i + 1 => congrArg (f a :: ·) (map_er f l i)
theorem Thg.abc {K : PySem.W.Frag} {H : Hp} {b : Addr} : Thg K H b (.str "abcdefghijklmnopqrstuvwxyz") (fun v => ∃ c, v = .str ⟨#[c]⟩ ∧ inL c = true) :=
  .inl ⟨_, rfl, by decide +kernel, by decide +kernel, fun c m => ⟨c, rfl, by rw [← in_abc]; exact decide_eq_true m⟩⟩
/-- a title: the stem with a letter put in -/
def mkT (cs : List Nat) (k : Nat) (c : Nat) : Str := ⟨((cs.take k ++ [c]) ++ cs.drop k).toArray⟩
theorem mkT_inj {cs : List Nat} {k x y : Nat} (h : mkT cs k x = mkT cs k y) : x = y := by
  have h1 : (cs.take k ++ [x]) ++ cs.drop k = (cs.take k ++ [y]) ++ cs.drop k := by
    have q := congrArg (fun z : Str => z.cps.toList) h
    simpa [mkT] using q
  have h2 := List.append_cancel_right h1
  have h3 := List.append_cancel_left h2
  exact (List.cons.inj h3).1
theorem nodup_map {α β : Type} {f : α → β} (hf : ∀ x y, f x = f y → x = y) : ∀ {l : List α}, l.Nodup → (l.map f).Nodup
  | [], _ => List.nodup_nil
  | x :: l, h => by
    obtain ⟨h1, h2⟩ := List.nodup_cons.mp h
    rw [List.map_cons]
    refine List.nodup_cons.mpr ⟨fun m => ?_, nodup_map hf h2⟩
    obtain ⟨y, hy, e⟩ := List.mem_map.mp m
    rw [hf _ _ e] at hy
    exact h1 hy
theorem perm_eraseIdx {α : Type} : ∀ {l : List α} {i : Nat} (h : i < l.length), (l[i] :: l.eraseIdx i).Perm l
  | _ :: _, 0, _ => List.Perm.refl _
  | x :: l, i + 1, h => by
    have q := perm_eraseIdx (l := l) (i := i) (by simpa using h)
    rw [List.eraseIdx_cons_succ, List.getElem_cons_succ]
    exact (List.Perm.swap x _ _).trans (q.cons x)
theorem nodup_move {us ls : List Nat} {i : Nat} (h : i < ls.length) (nd : (us ++ ls).Nodup) : ((us ++ [ls[i]]) ++ ls.eraseIdx i).Nodup := by
  rw [List.append_assoc, List.singleton_append]
  exact ((perm_eraseIdx h).append_left us).nodup_iff.mpr nd
section
variable {P : Program} {w : World} {K : PySem.W.Frag} {mg : Str → Option Value} {base : Heap} {Z : Fs}
/-! ### _law_titles -/
def sp_law_titles (K : PySem.W.Frag) : Sp := fun vs H Q _ => ∃ (b l : Addr) (many : Nat), vs = [.ref b, .int many] ∧ Bag H b l ∧ many ≤ 20 ∧ ∀ (H' : Hp) (p : Addr) (zs : List Str), Stp b H H' → Bag H' b l → H p = none → p ≠ b → p ≠ l → H' p = some (.lst (zs.map V.str)) → zs.length = many → (∀ z ∈ zs, Nm z) → zs.Nodup → Q (.ref p) H'
theorem ok_law_titles (T : Txt K w mg Z) : FnOk P w K mg base CX0 3 Z.a_law_titles Z.d_law_titles ["_law_bag_here", "_law_many"] (sp_law_titles K) := by
  have G_law_draw : FnOk P w K mg base CX0 1 Z.a_law_draw Z.d_law_draw ["_law_bag_here", "_law_sides"] sp_law_draw := ok_law_draw T
  have G_law_of : FnOk P w K mg base CX0 2 Z.a_law_of Z.d_law_of ["_law_bag_here", "_law_things"] (sp_law_of K) := ok_law_of T
  refine T.F_law_titles.ok sc_law_titles (fun vs H Q E h => ?_) (fun cdv A outer s H vs Q E hr h => ?_)
  · obtain ⟨b, l, many, rfl, _⟩ := h
    rfl
  · obtain ⟨b, l, many, rfl, B, hm, k⟩ := h
    refine ⟨_, (pss_cons (ps_par (i := 2) (j := 3) (by rfl) sc_law_titles.nd rfl rfl (by decide) rfl rfl (pa_cons (pe_callTy (call_list_str1 rfl) (by rfl) T.n_list boot_list (pa_cons pe_str pa_nil)) (pa_cons (pe_lst pa_nil) pa_nil)) (by rfl))
      (pss_cons (ps_set (i := 4) sc_law_titles.nd rfl (Or.inl rfl) (pe_join pe_str (pe_lc (own := [("_law_k", 5)]) (g := gName 5) (tt := tYes) rfl sc_law_titles.nd (pi_range1 (by rfl) T.n_range (pa_cons (pe_call G_law_draw (hr.mono (by omega)) (by rfl) T.m_law_draw T.F_law_draw.kp T.b_law_draw .nil pass0 (pa_cons (pv 0) (pa_cons pe_int pa_nil))) pa_nil)) (blkOk_by (N := N_law_titles) (sc := defScope s_law_titles) (by decide +kernel)) (fun _ _ _ _ _ => pg_name (i := 5) sc_law_titles.nd rfl (Or.inl rfl)) (fun _ _ _ _ _ => pts_nil) (fun _ _ _ _ _ => (pe_call G_law_of (hr.mono (by omega)) (by rfl) T.m_law_of T.F_law_of.kp T.b_law_of .nil pass0 (pa_cons (pv 0) (pa_cons pe_str pa_nil)))))))
      (pss_cons (ps_set (i := 6) sc_law_titles.nd rfl (Or.inl rfl) (pe_call G_law_draw (hr.mono (by omega)) (by rfl) T.m_law_draw T.F_law_draw.kp T.b_law_draw .nil pass0 (pa_cons (pv 0) (pa_cons (pe_op op_add (pe_callB call_len (by rfl) T.n_len boot_len (pa_cons (pv 4) pa_nil)) pe_int) pa_nil))))
      (pss_cons (ps_for PassesOwn.never rfl (pi_range1 (by rfl) T.n_range (pa_cons (pv 1) pa_nil)) (pg_name (i := 5) sc_law_titles.nd rfl (Or.inl rfl)) (pss_one (ps_expr (pe_bm PySem.F.plainAttrs_list PySem.F.slot_list_append PySem.F.type_list_append mt_append (pv 3) (pa_cons (pe_op op_add_str (pe_op op_add_str (pe_slice sl_str (pv 4) po_none (po_some (pv 6))) (pe_bm PySem.F.plainAttrs_list PySem.F.slot_list_pop PySem.F.type_list_pop mt_popAt (pv 2) (pa_cons (pe_call G_law_draw (hr.mono (by omega)) (by rfl) T.m_law_draw T.F_law_draw.kp T.b_law_draw .nil pass0 (pa_cons (pv 0) (pa_cons (pe_callB call_len (by rfl) T.n_len boot_len (pa_cons (pv 2) pa_nil)) pa_nil))) pa_nil))) (pe_slice sl_str (pv 4) (po_some (pv 6)) po_none)) pa_nil)))))
      (pss_one (ps_ret (pv 3))))))), ?_⟩
    refine ⟨_, rfl, (by decide +kernel), fun p1 h1 => ⟨Nat.zero_le _, fun p2 h2 => ⟨_, _, rfl, ?_⟩⟩⟩
    have n1 := B.ne h1
    have l1 := B.nel h1
    have s1 : Same H (upd H p1 (.lst (("abcdefghijklmnopqrstuvwxyz" : Str).cps.toList.map fun c => V.str ⟨#[c]⟩))) := Same.new h1
    have e1 : (upd H p1 (.lst (("abcdefghijklmnopqrstuvwxyz" : Str).cps.toList.map fun c => V.str ⟨#[c]⟩))) p1 = some (.lst (("abcdefghijklmnopqrstuvwxyz" : Str).cps.toList.map fun c => V.str ⟨#[c]⟩)) := upd_same
    generalize upd H p1 (.lst (("abcdefghijklmnopqrstuvwxyz" : Str).cps.toList.map fun c => V.str ⟨#[c]⟩)) = H1 at s1 e1 h2 ⊢
    have B1 := B.same s1
    have n2 := B1.ne h2
    have l2 := B1.nel h2
    have n12 : p1 ≠ p2 := ne_of_none e1 h2
    have z2 : H p2 = none := s1.free h2
    have s2 : Same H1 (upd H1 p2 (.lst [])) := Same.new h2
    have e2 : (upd H1 p2 (.lst [])) p2 = some (.lst []) := upd_same
    generalize upd H1 p2 (.lst []) = H2 at s2 e2 ⊢
    replace e1 := s2 _ _ e1
    have B2 := B1.same s2
    have s02 : Stp b H H2 := Same.stp (s1.trans s2)
    clear s1 s2 B1 h2
    -- stem
    refine ⟨⟨_, rfl⟩, .ref b, rfl, b, l, 6, rfl, B2, by decide, by decide, fun H3 d s3 B3 g0 g1 => ⟨d, rfl, by omega, by omega, fun D hD => ?_⟩⟩
    have nD := B3.ne hD
    have lD := B3.nel hD
    refine lc_it walk_range (fun i H' => Bag H' b l ∧ Stp b H3 H' ∧ ∃ cs : List Nat, H' D = some (.lst ((cs.map fun c => (⟨#[c]⟩ : Str)).map V.str)) ∧ cs.length = i ∧ ∀ c ∈ cs, inL c = true) ⟨B3.new hD, Stp.new hD, [], upd_same, rfl, mem0⟩ (fun _ _ _ _ => True.intro) ?_ ?_
    · rintro j x H4 H5 hj ⟨B4, s4, cs, e4, lc, hc⟩ ⟨rfl, rfl⟩
      refine ⟨rfl, .ref b, rfl, b, l, _, _, rfl, B4, Thg.abc, fun H6 v s6 B6 hv => ?_⟩
      obtain ⟨c, rfl, hc4⟩ := hv
      refine ⟨_, s6 _ _ nD e4, ?_, B6.put nD lD, (s4.trans s6).putnew hD, cs ++ [c], ?_, ?_, mema hc (mem1 hc4)⟩
      · rw [List.length_map, List.length_map, lc]
        exact Nat.lt_of_lt_of_le (show j < 6 by omega) (by decide)
      · rw [upd_same]
        simp
      · simp [lc]
    rintro H4 ⟨B4, s4, cs, e4, lc, hc⟩
    refine ⟨_, D, cs.map fun c => (⟨#[c]⟩ : Str), rfl, rfl, .inl (SqL.of e4), ?_, ?_⟩
    · rw [len_ones, List.length_map, lc]
      show d.toNat + d.toNat * 0 ≤ 16777216
      omega
    rw [join_ones]
    have lc' : cs.length ≤ 5 := by omega
    replace s4 := s3.trans s4
    replace s02 := s02.trans s4
    replace e1 := s4 _ _ n1 e1
    replace e2 := s4 _ _ n2 e2
    clear e4 lc nD lD hD B3 s3 B2 s4 g0 g1
    -- spot
    refine ⟨.ref b, rfl, _, rfl, _, cs.length, rfl, ⟨by rw [len_S]; exact Nat.le_trans lc' (by decide), (len_S cs).symm⟩, _, _, rfl, rfl, b, l, _, rfl, B4, by omega, by omega, fun H5 sp s5 B5 q0 q1 => ?_⟩
    replace s02 := s02.trans s5
    replace e1 := s5 _ _ n1 e1
    replace e2 := s5 _ _ n2 e2
    clear s5 B4
    refine ⟨.int many, rfl, many, rfl, by omega, by omega, for_range (lo := 0) (n := (many : Int).toNat) (fun i σ H' => ∃ (y5 : Option V) (ls us : List Nat) (zs : List Str), σ = [some (.ref b), some (.int many), some (.ref p1), some (.ref p2), some (.str ⟨cs.toArray⟩), y5, some (.int sp)] ∧ Bag H' b l ∧ Stp b H H' ∧
      H' p1 = some (.lst (ls.map fun c => V.str ⟨#[c]⟩)) ∧ ls.length + i = 26 ∧ (∀ c ∈ ls, inL c = true) ∧ H' p2 = some (.lst (zs.map V.str)) ∧ zs.length = i ∧ (∀ z ∈ zs, Nm z) ∧ zs = us.map (mkT cs sp.toNat) ∧ (us ++ ls).Nodup)
      ⟨_, _, [], [], rfl, B5, s02, e1, by decide +kernel, (fun c m => by rw [← in_abc]; exact decide_eq_true m), e2, rfl, mem0, rfl, by decide +kernel⟩ ?_ ?_⟩
    · rintro i σ H6 hi ⟨y5, ls, us, zs, rfl, B6, s6, f1, ll, hl, f2, lz, hz, ez, nd⟩
      refine ⟨.ref p2, rfl, .inl ⟨rfl, _, SqL.of f2⟩, _, rfl, .int sp, rfl, sp, rfl, _, rfl, (by rw [len_S]; exact Nat.le_trans lc' (by decide)), ?_⟩
      rw [cut_to q0]
      refine ⟨.ref p1, rfl, .inl ⟨rfl, _, SqL.of f1⟩, .ref b, rfl, .ref p1, rfl, .ref p1, ls.length, rfl, .inl ⟨_, SqL.of f1, by rw [List.length_map]⟩, b, l, _, rfl, B6, by omega, by omega, fun H7 d s7 B7 d0 d1 => ?_⟩
      have hd : d.toNat < ls.length := by omega
      refine ⟨p1, _, d, d.toNat, .str ⟨#[ls[d.toNat]]⟩, rfl, rfl, s7 _ _ n1 f1, by omega, by omega, (by rw [List.length_map]; exact seqIndex_of d0 (by omega)), (by rw [List.getElem?_map, List.getElem?_eq_getElem hd]; rfl), ?_⟩
      refine ⟨_, _, rfl, rfl, (by rw [len_S]; show _ + 1 ≤ sizeLine; exact Nat.le_trans (show (cs.take sp.toNat).length + 1 ≤ 100 by rw [List.length_take]; omega) (by decide)), ?_⟩
      rw [show (⟨#[ls[d.toNat]]⟩ : Str) = ⟨[ls[d.toNat]].toArray⟩ from rfl, cat_S]
      refine ⟨_, rfl, .int sp, rfl, sp, rfl, _, rfl, (by rw [len_S]; exact Nat.le_trans lc' (by decide)), ?_⟩
      rw [cut_from q0]
      refine ⟨_, _, rfl, rfl, (by rw [len_S, len_S]; exact Nat.le_trans (show (cs.take sp.toNat ++ [ls[d.toNat]]).length + (cs.drop sp.toNat).length ≤ 100 by rw [List.length_append, List.length_take, List.length_drop, List.length_singleton]; omega) (by decide)), ?_⟩
      rw [cat_S]
      have g2 : (upd H7 p1 (.lst ((ls.map fun c => V.str ⟨#[c]⟩).eraseIdx d.toNat))) p2 = some (.lst (zs.map V.str)) := by
        rw [upd_ne n12.symm]
        exact s7 _ _ n2 f2
      refine ⟨p2, _, _, rfl, rfl, g2, (by rw [List.length_map, lz]; exact Nat.lt_of_lt_of_le (show i < 20 by omega) (by decide)), ?_⟩
      refine ⟨_, ls.eraseIdx d.toNat, us ++ [ls[d.toNat]], zs ++ [_], rfl, (B7.put n1 l1).put n2 l2, ((s6.trans s7).putnew h1).putnew z2, ?_, ?_, fun c m => hl c (List.mem_of_mem_eraseIdx m), by rw [upd_same, List.map_append]; rfl, by rw [List.length_append, lz]; rfl, mema hz (mem1 ?_), by rw [ez, List.map_append]; rfl, nodup_move hd nd⟩
      · rw [upd_ne n12, upd_same]
        rw [map_er]
      · rw [List.length_eraseIdx_of_lt hd]
        omega
      · refine ⟨?_, ?_, ?_⟩
        · simp
          omega
        · simp
          omega
        · rw [List.all_eq_true]
          intro c m
          have m : c ∈ (cs.take sp.toNat ++ [ls[d.toNat]]) ++ cs.drop sp.toNat := by simpa using m
          rcases List.mem_append.mp m with m | m
          · rcases List.mem_append.mp m with m | m
            · exact hc c (List.mem_of_mem_take m)
            · rw [List.mem_singleton.mp m]
              exact hl _ (List.getElem_mem hd)
          · exact hc c (List.mem_of_mem_drop m)
    · rintro σ H6 ⟨y5, ls, us, zs, rfl, B6, s6, f1, ll, hl, f2, lz, hz, ez, nd⟩
      refine ⟨.ref p2, rfl, k _ _ zs s6 B6 z2 n2 l2 f2 (by omega) hz ?_⟩
      rw [ez]
      exact nodup_map (fun x y => mkT_inj) (List.nodup_append.mp nd).1
/-! ### _law_number, _law_r -/
def sp_law_number : Sp := fun vs H Q _ => ∃ (b l : Addr), vs = [.ref b] ∧ Bag H b l ∧ ∀ (H' : Hp) (i : Int), Stp b H H' → Bag H' b l → 0 ≤ i → i ≤ 65535 → Q (.int i) H'
theorem ok_law_number (T : Txt K w mg Z) : FnOk P w K mg base CX0 3 Z.a_law_number Z.d_law_number ["_law_bag_here"] sp_law_number := by
  have G_law_draw : FnOk P w K mg base CX0 1 Z.a_law_draw Z.d_law_draw ["_law_bag_here", "_law_sides"] sp_law_draw := ok_law_draw T
  have G_law_of : FnOk P w K mg base CX0 2 Z.a_law_of Z.d_law_of ["_law_bag_here", "_law_things"] (sp_law_of K) := ok_law_of T
  refine T.F_law_number.ok sc_law_number (fun vs H Q E h => ?_) (fun cdv A outer s H vs Q E hr h => ?_)
  · obtain ⟨b, l, rfl, _⟩ := h
    rfl
  · obtain ⟨b, l, rfl, B, k⟩ := h
    refine ⟨_, (pss_one (ps_ret (pe_call G_law_of (hr.mono (by omega)) (by rfl) T.m_law_of T.F_law_of.kp T.b_law_of .nil pass0 (pa_cons (pv 0) (pa_cons (pe_lst (pa_cons pe_int (pa_cons pe_int (pa_cons pe_int (pa_cons pe_int (pa_cons pe_int (pa_cons pe_int (pa_cons pe_int (pa_cons (pe_call G_law_draw (hr.mono (by omega)) (by rfl) T.m_law_draw T.F_law_draw.kp T.b_law_draw .nil pass0 (pa_cons (pv 0) (pa_cons pe_int pa_nil))) (pa_cons (pe_call G_law_draw (hr.mono (by omega)) (by rfl) T.m_law_draw T.F_law_draw.kp T.b_law_draw .nil pass0 (pa_cons (pv 0) (pa_cons pe_int pa_nil))) (pa_cons (pe_call G_law_draw (hr.mono (by omega)) (by rfl) T.m_law_draw T.F_law_draw.kp T.b_law_draw .nil pass0 (pa_cons (pv 0) (pa_cons pe_int pa_nil))) pa_nil))))))))))) pa_nil))))), ?_⟩
    refine ⟨.ref b, rfl, .ref b, rfl, b, l, 300, rfl, B, by decide, by decide, fun H1 d1 s1 B1 _ _ => ?_⟩
    refine ⟨.ref b, rfl, b, l, 65536, rfl, B1, by decide, by decide, fun H2 d2 s2 B2 _ _ => ?_⟩
    refine ⟨.ref b, rfl, b, l, 65536, rfl, B2, by decide, by decide, fun H3 d3 s3 B3 _ _ => ?_⟩
    refine ⟨(by show 10 ≤ sizeLine; decide), fun p hp => ?_⟩
    refine ⟨b, l, .ref p, fun v => ∃ i, v = .int i ∧ 0 ≤ i ∧ i ≤ 65535, rfl, B3.new hp, .lst (B3.ne hp) (SqL.of upd_same) (by show 0 < 10; decide) (by show 10 ≤ 100000; decide) ?_, fun H4 v s4 B4 hv => ?_⟩
    · exact memc ⟨_, rfl, by decide, by decide⟩ (memc ⟨_, rfl, by decide, by decide⟩ (memc ⟨_, rfl, by decide, by decide⟩ (memc ⟨_, rfl, by decide, by decide⟩ (memc ⟨_, rfl, by decide, by decide⟩ (memc ⟨_, rfl, by decide, by decide⟩ (memc ⟨_, rfl, by decide, by decide⟩ (memc ⟨_, rfl, by omega, by omega⟩ (memc ⟨_, rfl, by omega, by omega⟩ (mem1 ⟨_, rfl, by omega, by omega⟩)))))))))
    · obtain ⟨i, rfl, i0, i1⟩ := hv
      exact k _ _ ((((s1.trans s2).trans s3).trans (Stp.new hp)).trans s4) B4 i0 i1
def sp_law_r : Sp := fun vs H Q _ => ∃ (b l : Addr), vs = [.ref b] ∧ Bag H b l ∧ ∀ (H' : Hp) (v : V), Stp b H H' → Bag H' b l → v ∈ regs → Q v H'
theorem ok_law_r (T : Txt K w mg Z) : FnOk P w K mg base CX0 3 Z.a_law_r Z.d_law_r ["_law_bag_here"] sp_law_r := by
  have G_law_of : FnOk P w K mg base CX0 2 Z.a_law_of Z.d_law_of ["_law_bag_here", "_law_things"] (sp_law_of K) := ok_law_of T
  refine T.F_law_r.ok sc_law_r (fun vs H Q E h => ?_) (fun cdv A outer s H vs Q E hr h => ?_)
  · obtain ⟨b, l, rfl, _⟩ := h
    rfl
  · obtain ⟨b, l, rfl, B, k⟩ := h
    refine ⟨_, (pss_one (ps_ret (pe_call G_law_of (hr.mono (by omega)) (by rfl) T.m_law_of T.F_law_of.kp T.b_law_of .nil pass0 (pa_cons (pv 0) (pa_cons (pe_lst (pa_cons pe_str (pa_cons pe_str (pa_cons pe_str pa_nil)))) pa_nil))))), ?_⟩
    refine ⟨.ref b, rfl, (by show 3 ≤ sizeLine; decide), fun p hp => ?_⟩
    exact ⟨b, l, .ref p, fun v => v ∈ regs, rfl, B.new hp, .lst (B.ne hp) (SqL.of upd_same) (by show 0 < 3; decide) (by show 3 ≤ 100000; decide) (fun v m => m), fun H4 v s4 B4 hv => k _ _ ((Stp.new hp).trans s4) B4 hv⟩
end

section
variable {P : Program} {w : World} {K : PySem.W.Frag} {mg : Str → Option Value} {base : Heap} {Z : Fs}
/-! ### drawn rows -/
/-- the names at hand: a list of texts, not the bag -/
def Tls (H : Hp) (b t : Addr) (ts : List Str) : Prop := H t = some (.lst (ts.map V.str)) ∧ t ≠ b ∧ 0 < ts.length ∧ ts.length ≤ 1000
theorem Tls.stp {H H' : Hp} {b t : Addr} {ts : List Str} (s : Stp b H H') (h : Tls H b t ts) : Tls H' b t ts := ⟨s _ _ h.2.1 h.1, h.2⟩
theorem Tls.thg {H : Hp} {b t : Addr} {ts : List Str} (h : Tls H b t ts) : Thg K H b (.ref t) (fun v => ∃ z, v = .str z ∧ z ∈ ts) :=
  .lst h.2.1 (SqL.of h.1) (by rw [List.length_map]; exact h.2.2.1) (by rw [List.length_map]; exact Nat.le_trans h.2.2.2 (by decide)) fun v m => by
    obtain ⟨z, hz, rfl⟩ := List.mem_map.mp m
    exact ⟨z, rfl, hz⟩
def sp_law_code_row : Sp := fun vs H Q _ => ∃ (b l t : Addr) (ts : List Str), vs = [.ref b, .ref t] ∧ Bag H b l ∧ Tls H b t ts ∧ ∀ (H' : Hp) (a : Addr) (xs : List V), Stp b H H' → Bag H' b l → H' a = some (.tup xs) → a ≠ b → CRow ts xs → Q (.ref a) H'
theorem ok_law_code_row (T : Txt K w mg Z) : FnOk P w K mg base CX0 4 Z.a_law_code_row Z.d_law_code_row ["_law_bag_here", "_law_titles_here"] sp_law_code_row := by
  have G_law_draw : FnOk P w K mg base CX0 1 Z.a_law_draw Z.d_law_draw ["_law_bag_here", "_law_sides"] sp_law_draw := ok_law_draw T
  have G_law_of : FnOk P w K mg base CX0 2 Z.a_law_of Z.d_law_of ["_law_bag_here", "_law_things"] (sp_law_of K) := ok_law_of T
  have G_law_number : FnOk P w K mg base CX0 3 Z.a_law_number Z.d_law_number ["_law_bag_here"] sp_law_number := ok_law_number T
  have G_law_r : FnOk P w K mg base CX0 3 Z.a_law_r Z.d_law_r ["_law_bag_here"] sp_law_r := ok_law_r T
  refine T.F_law_code_row.ok sc_law_code_row (fun vs H Q E h => ?_) (fun cdv A outer s H vs Q E hr h => ?_)
  · obtain ⟨b, l, t, ts, rfl, _⟩ := h
    rfl
  · obtain ⟨b, l, t, ts, rfl, B, TT, k⟩ := h
    refine ⟨_, (pss_cons (ps_set (i := 2) sc_law_code_row.nd rfl (Or.inl rfl) (pe_call G_law_draw (hr.mono (by omega)) (by rfl) T.m_law_draw T.F_law_draw.kp T.b_law_draw .nil pass0 (pa_cons (pv 0) (pa_cons pe_int pa_nil))))
      (pss_cons (ps_if (pt_cmpR op_lt (pv 2) pe_int (nomark _)) (pss_one (ps_ret (pe_tup (pa_cons pe_str (pa_cons (pe_call G_law_r (hr.mono (by omega)) (by rfl) T.m_law_r T.F_law_r.kp T.b_law_r .nil pass0 (pa_cons (pv 0) pa_nil)) (pa_cons (pe_call G_law_number (hr.mono (by omega)) (by rfl) T.m_law_number T.F_law_number.kp T.b_law_number .nil pass0 (pa_cons (pv 0) pa_nil)) pa_nil)))))) pss_nil)
      (pss_cons (ps_if (pt_cmpR op_lt (pv 2) pe_int (nomark _)) (pss_one (ps_ret (pe_tup (pa_cons (pe_call G_law_of (hr.mono (by omega)) (by rfl) T.m_law_of T.F_law_of.kp T.b_law_of .nil pass0 (pa_cons (pv 0) (pa_cons (pe_lst (pa_cons pe_str (pa_cons pe_str pa_nil))) pa_nil))) (pa_cons (pe_call G_law_r (hr.mono (by omega)) (by rfl) T.m_law_r T.F_law_r.kp T.b_law_r .nil pass0 (pa_cons (pv 0) pa_nil)) (pa_cons (pe_call G_law_of (hr.mono (by omega)) (by rfl) T.m_law_of T.F_law_of.kp T.b_law_of .nil pass0 (pa_cons (pv 0) (pa_cons (pv 1) pa_nil))) pa_nil)))))) pss_nil)
      (pss_cons (ps_if (pt_cmpR op_lt (pv 2) pe_int (nomark _)) (pss_one (ps_ret (pe_tup (pa_cons (pe_call G_law_of (hr.mono (by omega)) (by rfl) T.m_law_of T.F_law_of.kp T.b_law_of .nil pass0 (pa_cons (pv 0) (pa_cons (pe_lst (pa_cons pe_str (pa_cons pe_str pa_nil))) pa_nil))) (pa_cons (pe_call G_law_r (hr.mono (by omega)) (by rfl) T.m_law_r T.F_law_r.kp T.b_law_r .nil pass0 (pa_cons (pv 0) pa_nil)) (pa_cons (pe_call G_law_r (hr.mono (by omega)) (by rfl) T.m_law_r T.F_law_r.kp T.b_law_r .nil pass0 (pa_cons (pv 0) pa_nil)) pa_nil)))))) pss_nil)
      (pss_cons (ps_if (pt_cmpR op_lt (pv 2) pe_int (nomark _)) (pss_one (ps_ret (pe_tup (pa_cons (pe_call G_law_of (hr.mono (by omega)) (by rfl) T.m_law_of T.F_law_of.kp T.b_law_of .nil pass0 (pa_cons (pv 0) (pa_cons (pe_lst (pa_cons pe_str (pa_cons pe_str pa_nil))) pa_nil))) (pa_cons (pe_call G_law_r (hr.mono (by omega)) (by rfl) T.m_law_r T.F_law_r.kp T.b_law_r .nil pass0 (pa_cons (pv 0) pa_nil)) (pa_cons (pe_call G_law_r (hr.mono (by omega)) (by rfl) T.m_law_r T.F_law_r.kp T.b_law_r .nil pass0 (pa_cons (pv 0) pa_nil)) (pa_cons (pe_call G_law_of (hr.mono (by omega)) (by rfl) T.m_law_of T.F_law_of.kp T.b_law_of .nil pass0 (pa_cons (pv 0) (pa_cons (pe_lst (pa_cons pe_int (pa_cons pe_int (pa_cons (pe_call G_law_draw (hr.mono (by omega)) (by rfl) T.m_law_draw T.F_law_draw.kp T.b_law_draw .nil pass0 (pa_cons (pv 0) (pa_cons pe_int pa_nil))) pa_nil)))) pa_nil))) pa_nil))))))) pss_nil)
      (pss_cons (ps_if (pt_cmpR op_lt (pv 2) pe_int (nomark _)) (pss_one (ps_ret (pe_tup (pa_cons (pe_call G_law_of (hr.mono (by omega)) (by rfl) T.m_law_of T.F_law_of.kp T.b_law_of .nil pass0 (pa_cons (pv 0) (pa_cons (pe_lst (pa_cons pe_str (pa_cons pe_str pa_nil))) pa_nil))) (pa_cons (pe_call G_law_of (hr.mono (by omega)) (by rfl) T.m_law_of T.F_law_of.kp T.b_law_of .nil pass0 (pa_cons (pv 0) (pa_cons (pv 1) pa_nil))) pa_nil))))) pss_nil)
      (pss_cons (ps_if (pt_cmpR op_lt (pv 2) pe_int (nomark _)) (pss_one (ps_ret (pe_tup (pa_cons (pe_call G_law_of (hr.mono (by omega)) (by rfl) T.m_law_of T.F_law_of.kp T.b_law_of .nil pass0 (pa_cons (pv 0) (pa_cons (pe_lst (pa_cons pe_str (pa_cons pe_str pa_nil))) pa_nil))) (pa_cons (pe_call G_law_r (hr.mono (by omega)) (by rfl) T.m_law_r T.F_law_r.kp T.b_law_r .nil pass0 (pa_cons (pv 0) pa_nil)) pa_nil))))) pss_nil)
      (pss_one (ps_ret (pe_call G_law_of (hr.mono (by omega)) (by rfl) T.m_law_of T.F_law_of.kp T.b_law_of .nil pass0 (pa_cons (pv 0) (pa_cons (pe_lst (pa_cons (pe_tup (pa_cons pe_str pa_nil)) (pa_cons (pe_tup (pa_cons pe_str pa_nil)) (pa_cons (pe_tup (pa_cons pe_str (pa_cons (pe_call G_law_of (hr.mono (by omega)) (by rfl) T.m_law_of T.F_law_of.kp T.b_law_of .nil pass0 (pa_cons (pv 0) (pa_cons (pe_lst (pa_cons pe_int (pa_cons pe_int (pa_cons pe_int (pa_cons pe_int pa_nil))))) pa_nil))) pa_nil))) pa_nil)))) pa_nil)))))))))))), ?_⟩
    refine ⟨.ref b, rfl, b, l, 14, rfl, B, by decide, by decide, fun H0 d s0 B0 _ _ => ?_⟩
    have T0 := TT.stp s0
    refine ⟨_, rfl, _, _, rfl, rfl, _, rfl, ite2 (fun _ => ?_) (fun _ => ?_)⟩
    · -- put
      refine ⟨.ref b, rfl, b, l, rfl, B0, fun H1 r s1 B1 hr1 => ⟨.ref b, rfl, b, l, rfl, B1, fun H2 n s2 B2 n0 n1 => ⟨(by show 3 ≤ sizeLine; decide), fun p hp => ?_⟩⟩⟩
      exact k _ p _ (((s0.trans s1).trans s2).trans (Stp.new hp)) (B2.new hp) upd_same (B2.ne hp) (.put hr1 n0 n1)
    refine ⟨_, rfl, _, _, rfl, rfl, _, rfl, ite2 (fun _ => ?_) (fun _ => ?_)⟩
    · -- name, ifzero
      refine ⟨.ref b, rfl, (by show 2 ≤ sizeLine; decide), fun q hq => ⟨b, l, .ref q, fun v => v ∈ [V.str "name", V.str "ifzero"], rfl, B0.new hq, .lst (B0.ne hq) (SqL.of upd_same) (by show 0 < 2; decide) (by show 2 ≤ 100000; decide) (fun v m => m), fun H1 v s1 B1 hv => ?_⟩⟩
      replace s1 := (Stp.new hq).trans s1
      refine ⟨.ref b, rfl, b, l, rfl, B1, fun H2 r s2 B2 hr2 => ?_⟩
      have T2 := (T0.stp s1).stp s2
      refine ⟨.ref b, rfl, .ref t, rfl, b, l, .ref t, _, rfl, B2, T2.thg, fun H3 u s3 B3 hu => ?_⟩
      obtain ⟨z, rfl, hz⟩ := hu
      refine ⟨(by show 3 ≤ sizeLine; decide), fun p hp => ?_⟩
      have ss := (((s0.trans s1).trans s2).trans s3).trans (Stp.new (o := .tup [v, r, .str z]) hp)
      rcases List.mem_cons.mp hv with rfl | hv
      · exact k _ p _ ss (B3.new hp) upd_same (B3.ne hp) (.name hr2 hz)
      · rw [List.mem_singleton.mp hv] at ss ⊢
        exact k _ p _ ss (B3.new hp) upd_same (B3.ne hp) (.ifzero hr2 hz)
    refine ⟨_, rfl, _, _, rfl, rfl, _, rfl, ite2 (fun _ => ?_) (fun _ => ?_)⟩
    · -- add, take
      refine ⟨.ref b, rfl, (by show 2 ≤ sizeLine; decide), fun q hq => ⟨b, l, .ref q, fun v => v ∈ [V.str "add", V.str "take"], rfl, B0.new hq, .lst (B0.ne hq) (SqL.of upd_same) (by show 0 < 2; decide) (by show 2 ≤ 100000; decide) (fun v m => m), fun H1 v s1 B1 hv => ?_⟩⟩
      replace s1 := (Stp.new hq).trans s1
      refine ⟨.ref b, rfl, b, l, rfl, B1, fun H2 r s2 B2 hr2 => ⟨.ref b, rfl, b, l, rfl, B2, fun H3 r3 s3 B3 hr3 => ⟨(by show 3 ≤ sizeLine; decide), fun p hp => ?_⟩⟩⟩
      have ss := (((s0.trans s1).trans s2).trans s3).trans (Stp.new (o := .tup [v, r, r3]) hp)
      rcases List.mem_cons.mp hv with rfl | hv
      · exact k _ p _ ss (B3.new hp) upd_same (B3.ne hp) (.add hr2 hr3)
      · rw [List.mem_singleton.mp hv] at ss ⊢
        exact k _ p _ ss (B3.new hp) upd_same (B3.ne hp) (.take hr2 hr3)
    refine ⟨_, rfl, _, _, rfl, rfl, _, rfl, ite2 (fun _ => ?_) (fun _ => ?_)⟩
    · -- load, store
      refine ⟨.ref b, rfl, (by show 2 ≤ sizeLine; decide), fun q hq => ⟨b, l, .ref q, fun v => v ∈ [V.str "load", V.str "store"], rfl, B0.new hq, .lst (B0.ne hq) (SqL.of upd_same) (by show 0 < 2; decide) (by show 2 ≤ 100000; decide) (fun v m => m), fun H1 v s1 B1 hv => ?_⟩⟩
      replace s1 := (Stp.new hq).trans s1
      refine ⟨.ref b, rfl, b, l, rfl, B1, fun H2 r s2 B2 hr2 => ⟨.ref b, rfl, b, l, rfl, B2, fun H3 r3 s3 B3 hr3 => ?_⟩⟩
      refine ⟨.ref b, rfl, .ref b, rfl, b, l, 16, rfl, B3, by decide, by decide, fun H4 d4 s4 B4 g0 g1 => ⟨(by show 3 ≤ sizeLine; decide), fun q4 hq4 => ?_⟩⟩
      refine ⟨b, l, .ref q4, fun v => ∃ i, v = .int i ∧ 0 ≤ i ∧ i ≤ 15, rfl, B4.new hq4, .lst (B4.ne hq4) (SqL.of upd_same) (by show 0 < 3; decide) (by show 3 ≤ 100000; decide) (memc ⟨_, rfl, by decide, by decide⟩ (memc ⟨_, rfl, by decide, by decide⟩ (mem1 ⟨_, rfl, by omega, by omega⟩))), fun H5 u s5 B5 hu => ?_⟩
      obtain ⟨i, rfl, i0, i1⟩ := hu
      replace s5 := (s4.trans (Stp.new hq4)).trans s5
      refine ⟨(by show 4 ≤ sizeLine; decide), fun p hp => ?_⟩
      have ss := ((((s0.trans s1).trans s2).trans s3).trans s5).trans (Stp.new (o := .tup [v, r, r3, .int i]) hp)
      rcases List.mem_cons.mp hv with rfl | hv
      · exact k _ p _ ss (B5.new hp) upd_same (B5.ne hp) (.load hr2 hr3 i0 i1)
      · rw [List.mem_singleton.mp hv] at ss ⊢
        exact k _ p _ ss (B5.new hp) upd_same (B5.ne hp) (.store hr2 hr3 i0 i1)
    refine ⟨_, rfl, _, _, rfl, rfl, _, rfl, ite2 (fun _ => ?_) (fun _ => ?_)⟩
    · -- jump, call
      refine ⟨.ref b, rfl, (by show 2 ≤ sizeLine; decide), fun q hq => ⟨b, l, .ref q, fun v => v ∈ [V.str "jump", V.str "call"], rfl, B0.new hq, .lst (B0.ne hq) (SqL.of upd_same) (by show 0 < 2; decide) (by show 2 ≤ 100000; decide) (fun v m => m), fun H1 v s1 B1 hv => ?_⟩⟩
      replace s1 := (Stp.new hq).trans s1
      have T1 := T0.stp s1
      refine ⟨.ref b, rfl, .ref t, rfl, b, l, .ref t, _, rfl, B1, T1.thg, fun H3 u s3 B3 hu => ?_⟩
      obtain ⟨z, rfl, hz⟩ := hu
      refine ⟨(by show 2 ≤ sizeLine; decide), fun p hp => ?_⟩
      have ss := ((s0.trans s1).trans s3).trans (Stp.new (o := .tup [v, .str z]) hp)
      rcases List.mem_cons.mp hv with rfl | hv
      · exact k _ p _ ss (B3.new hp) upd_same (B3.ne hp) (.jump hz)
      · rw [List.mem_singleton.mp hv] at ss ⊢
        exact k _ p _ ss (B3.new hp) upd_same (B3.ne hp) (.call hz)
    refine ⟨_, rfl, _, _, rfl, rfl, _, rfl, ite2 (fun _ => ?_) (fun _ => ?_)⟩
    · -- callby, out
      refine ⟨.ref b, rfl, (by show 2 ≤ sizeLine; decide), fun q hq => ⟨b, l, .ref q, fun v => v ∈ [V.str "callby", V.str "out"], rfl, B0.new hq, .lst (B0.ne hq) (SqL.of upd_same) (by show 0 < 2; decide) (by show 2 ≤ 100000; decide) (fun v m => m), fun H1 v s1 B1 hv => ?_⟩⟩
      replace s1 := (Stp.new hq).trans s1
      refine ⟨.ref b, rfl, b, l, rfl, B1, fun H2 r s2 B2 hr2 => ⟨(by show 2 ≤ sizeLine; decide), fun p hp => ?_⟩⟩
      have ss := ((s0.trans s1).trans s2).trans (Stp.new (o := .tup [v, r]) hp)
      rcases List.mem_cons.mp hv with rfl | hv
      · exact k _ p _ ss (B2.new hp) upd_same (B2.ne hp) (.callby hr2)
      · rw [List.mem_singleton.mp hv] at ss ⊢
        exact k _ p _ ss (B2.new hp) upd_same (B2.ne hp) (.out hr2)
    · -- back, halt, room
      refine ⟨.ref b, rfl, (by show 1 ≤ sizeLine; decide), fun p1 h1 => ?_⟩
      have n1 := B0.ne h1
      have s1 : Same H0 (upd H0 p1 (.tup [V.str "back"])) := Same.new h1
      have e1 : (upd H0 p1 (.tup [V.str "back"])) p1 = some (.tup [V.str "back"]) := upd_same
      generalize upd H0 p1 (.tup [V.str "back"]) = H1 at s1 e1 ⊢
      have B1 := B0.same s1
      refine ⟨(by show 1 ≤ sizeLine; decide), fun p2 h2 => ?_⟩
      have n2 := B1.ne h2
      have s2 : Same H1 (upd H1 p2 (.tup [V.str "halt"])) := Same.new h2
      have e2 : (upd H1 p2 (.tup [V.str "halt"])) p2 = some (.tup [V.str "halt"]) := upd_same
      generalize upd H1 p2 (.tup [V.str "halt"]) = H2 at s2 e2 ⊢
      have B2 := B1.same s2
      refine ⟨.ref b, rfl, (by show 4 ≤ sizeLine; decide), fun q hq => ⟨b, l, .ref q, fun v => ∃ i, v = .int i ∧ 1 ≤ i ∧ i ≤ 120, rfl, B2.new hq, .lst (B2.ne hq) (SqL.of upd_same) (by show 0 < 4; decide) (by show 4 ≤ 100000; decide) (memc ⟨_, rfl, by decide, by decide⟩ (memc ⟨_, rfl, by decide, by decide⟩ (memc ⟨_, rfl, by decide, by decide⟩ (mem1 ⟨_, rfl, by decide, by decide⟩)))), fun H3 u s3 B3 hu => ?_⟩⟩
      obtain ⟨i, rfl, i0, i1⟩ := hu
      replace s3 := (Stp.new hq).trans s3
      refine ⟨(by show 2 ≤ sizeLine; decide), fun p3 h3 => ?_⟩
      have n3 := B3.ne h3
      have s4 : Same H3 (upd H3 p3 (.tup [V.str "room", V.int i])) := Same.new h3
      have e4 : (upd H3 p3 (.tup [V.str "room", V.int i])) p3 = some (.tup [V.str "room", V.int i]) := upd_same
      generalize upd H3 p3 (.tup [V.str "room", V.int i]) = H4 at s4 e4 ⊢
      have B4 := B3.same s4
      refine ⟨(by show 3 ≤ sizeLine; decide), fun q4 hq4 => ?_⟩
      have u1 : Stp b H0 H4 := ((Same.stp (s1.trans s2)).trans s3).trans (Same.stp s4)
      have f2 : H4 p2 = some (.tup [V.str "halt"]) := s4 _ _ (s3 _ _ n2 e2)
      have f1 : H4 p1 = some (.tup [V.str "back"]) := s4 _ _ (s3 _ _ n1 (s2 _ _ e1))
      refine ⟨b, l, .ref q4, fun v => ∃ (a : Addr) (xs : List V), v = .ref a ∧ H4 a = some (.tup xs) ∧ a ≠ b ∧ CRow ts xs, rfl, B4.new hq4, .lst (B4.ne hq4) (SqL.of upd_same) (by show 0 < 3; decide) (by show 3 ≤ 100000; decide) (memc ⟨_, _, rfl, f1, n1, .back⟩ (memc ⟨_, _, rfl, f2, n2, .halt⟩ (mem1 ⟨_, _, rfl, e4, n3, .room i0 i1⟩))), fun H5 u s5 B5 hu => ?_⟩
      obtain ⟨a, xs, rfl, ea, na, hx⟩ := hu
      exact k _ a xs (((s0.trans u1).trans (Stp.new hq4)).trans s5) B5 (s5 _ _ na ((Stp.new hq4) _ _ na ea)) na hx
def sp_law_data_row : Sp := fun vs H Q _ => ∃ (b l t : Addr) (ts : List Str), vs = [.ref b, .ref t] ∧ Bag H b l ∧ Tls H b t ts ∧ ∀ (H' : Hp) (a : Addr) (xs : List V), Stp b H H' → Bag H' b l → H' a = some (.tup xs) → a ≠ b → DRow ts xs → Q (.ref a) H'
theorem ok_law_data_row (T : Txt K w mg Z) : FnOk P w K mg base CX0 4 Z.a_law_data_row Z.d_law_data_row ["_law_bag_here", "_law_titles_here"] sp_law_data_row := by
  have G_law_draw : FnOk P w K mg base CX0 1 Z.a_law_draw Z.d_law_draw ["_law_bag_here", "_law_sides"] sp_law_draw := ok_law_draw T
  have G_law_of : FnOk P w K mg base CX0 2 Z.a_law_of Z.d_law_of ["_law_bag_here", "_law_things"] (sp_law_of K) := ok_law_of T
  have G_law_number : FnOk P w K mg base CX0 3 Z.a_law_number Z.d_law_number ["_law_bag_here"] sp_law_number := ok_law_number T
  refine T.F_law_data_row.ok sc_law_data_row (fun vs H Q E h => ?_) (fun cdv A outer s H vs Q E hr h => ?_)
  · obtain ⟨b, l, t, ts, rfl, _⟩ := h
    rfl
  · obtain ⟨b, l, t, ts, rfl, B, TT, k⟩ := h
    refine ⟨_, (pss_cons (ps_set (i := 2) sc_law_data_row.nd rfl (Or.inl rfl) (pe_call G_law_draw (hr.mono (by omega)) (by rfl) T.m_law_draw T.F_law_draw.kp T.b_law_draw .nil pass0 (pa_cons (pv 0) (pa_cons pe_int pa_nil))))
      (pss_cons (ps_if (pt_cmpR op_eq (pv 2) pe_int (nomark _)) (pss_one (ps_ret (pe_tup (pa_cons pe_str (pa_cons (pe_call G_law_number (hr.mono (by omega)) (by rfl) T.m_law_number T.F_law_number.kp T.b_law_number .nil pass0 (pa_cons (pv 0) pa_nil)) pa_nil))))) pss_nil)
      (pss_one (ps_ret (pe_ifExp (pt_cmpR op_eq (pv 2) pe_int (nomark _)) (pe_tup (pa_cons pe_str (pa_cons (pe_call G_law_of (hr.mono (by omega)) (by rfl) T.m_law_of T.F_law_of.kp T.b_law_of .nil pass0 (pa_cons (pv 0) (pa_cons (pv 1) pa_nil))) pa_nil))) (pe_tup (pa_cons pe_str (pa_cons (pe_call G_law_of (hr.mono (by omega)) (by rfl) T.m_law_of T.F_law_of.kp T.b_law_of .nil pass0 (pa_cons (pv 0) (pa_cons (pe_lst (pa_cons pe_int (pa_cons pe_int (pa_cons pe_int (pa_cons pe_int pa_nil))))) pa_nil))) pa_nil)))))))), ?_⟩
    refine ⟨.ref b, rfl, b, l, 3, rfl, B, by decide, by decide, fun H0 d s0 B0 _ _ => ?_⟩
    have T0 := TT.stp s0
    refine ⟨_, rfl, rfl, _, rfl, ite2 (fun _ => ?_) (fun _ => ?_)⟩
    · refine ⟨.ref b, rfl, b, l, rfl, B0, fun H2 n s2 B2 n0 n1 => ⟨(by show 2 ≤ sizeLine; decide), fun p hp => ?_⟩⟩
      exact k _ p _ ((s0.trans s2).trans (Stp.new hp)) (B2.new hp) upd_same (B2.ne hp) (.word n0 n1)
    refine ⟨_, rfl, rfl, _, rfl, ite2 (fun _ => ?_) (fun _ => ?_)⟩
    · refine ⟨.ref b, rfl, .ref t, rfl, b, l, .ref t, _, rfl, B0, T0.thg, fun H3 u s3 B3 hu => ?_⟩
      obtain ⟨z, rfl, hz⟩ := hu
      refine ⟨(by show 2 ≤ sizeLine; decide), fun p hp => ?_⟩
      exact k _ p _ ((s0.trans s3).trans (Stp.new hp)) (B3.new hp) upd_same (B3.ne hp) (.address hz)
    · refine ⟨.ref b, rfl, (by show 4 ≤ sizeLine; decide), fun q hq => ⟨b, l, .ref q, fun v => ∃ i, v = .int i ∧ 1 ≤ i ∧ i ≤ 120, rfl, B0.new hq, .lst (B0.ne hq) (SqL.of upd_same) (by show 0 < 4; decide) (by show 4 ≤ 100000; decide) (memc ⟨_, rfl, by decide, by decide⟩ (memc ⟨_, rfl, by decide, by decide⟩ (memc ⟨_, rfl, by decide, by decide⟩ (mem1 ⟨_, rfl, by decide, by decide⟩)))), fun H3 u s3 B3 hu => ?_⟩⟩
      obtain ⟨i, rfl, i0, i1⟩ := hu
      replace s3 := (Stp.new hq).trans s3
      refine ⟨(by show 2 ≤ sizeLine; decide), fun p hp => ?_⟩
      exact k _ p _ ((s0.trans s3).trans (Stp.new hp)) (B3.new hp) upd_same (B3.ne hp) (.room i0 i1)
end

/-! ### rows judged, as plain functions -/
def kindsL : List Str := ["R", "N", "n", "d", "k"]
def bnd (q : Str) : Int × Int := if q = "n" then (0, 65535) else if q = "d" then (0, 15) else (1, 120)
def fitV (q : Str) (x : V) : Bool := if q = "R" then regV x else if q = "N" then nmV x else numV x (bnd q).1 (bnd q).2
def fitA (xs : List V) (ks : List Str) : Bool := decide (xs.length = ks.length) && (List.zipWith fitV ks xs).all id
/-- the string of a kind -/
def kst (ks : List Str) : List V := ks.map V.str
/-- a value that is a tuple of xs, or none -/
def Tp (K : PySem.W.Frag) (H : Hp) (b : Addr) (n : Nat) (v : V) : Option (List V) → Prop
  | some xs => ∃ a, v = .ref a ∧ SqT K H a xs ∧ xs.length ≤ 100000 ∧ ∀ x ∈ xs, Okv K H b n x
  | none => ∃ t, TyX K H v t ∧ PySem.W.kitOne K t (.type "tuple") = some false
theorem TyX.same {K : PySem.W.Frag} {H H' : Hp} {v : V} {t : Value} (s : Same H H') (h : TyX K H v t) : TyX K H' v t := by
  cases h with
  | base h =>
    cases h with
    | non => exact .base .non
    | bl x => exact .base (.bl x)
    | int i => exact .base (.int i)
    | str x => exact .base (.str x)
    | flt x => exact .base (.flt x)
    | lst e => exact .base (.lst (s _ _ e))
    | frz e => exact .base (.frz (s _ _ e))
    | tup e => exact .base (.tup (s _ _ e))
    | dK e => exact .base (.dK (s _ _ e))
    | dT e => exact .base (.dT (s _ _ e))
    | ins e cl ha hn htk hm => exact .base (.ins (s _ _ e) cl ha hn htk hm)
  | byt b => exact .byt b
  | set e => exact .set (s _ _ e)
  | kList e c => exact .kList e c
  | kTuple e c => exact .kTuple e c
  | kDict e c => exact .kDict e c
  | fTuple e => exact .fTuple (s _ _ e)
  | fDict e => exact .fDict (s _ _ e)
theorem Tp.same {K : PySem.W.Frag} {H H' : Hp} {b : Addr} {n : Nat} {v : V} {o : Option (List V)} (s : Same H H') (h : Tp K H b n v o) : Tp K H' b n v o := by
  cases o with
  | some xs =>
    obtain ⟨a, e, h1, h2, h3⟩ := h
    exact ⟨a, e, Same.sqT s h1, h2, fun x m => (h3 x m).stp (Same.stp s)⟩
  | none =>
    obtain ⟨t, h1, h2⟩ := h
    exact ⟨t, TyX.same s h1, h2⟩
theorem Okv.tp {K : PySem.W.Frag} {H : Hp} {b : Addr} {n : Nat} {v : V} (h : Okv K H b (n + 1) v) : ∃ o, Tp K H b n v o := by
  rcases h with ⟨hf, _⟩ | ⟨a, xs, rfl, _, h | h, hl, hx⟩
  · refine ⟨none, ?_⟩
    cases v with
    | non => exact ⟨_, .base .non, kit_ty (by decide +kernel)⟩
    | bl k => exact ⟨_, .base (.bl k), kit_ty (show kitB "bool" "tuple" = some false by decide +kernel)⟩
    | int i => exact ⟨_, .base (.int i), kit_ty (show kitB "int" "tuple" = some false by decide +kernel)⟩
    | str z => exact ⟨_, .base (.str z), kit_ty (show kitB "str" "tuple" = some false by decide +kernel)⟩
    | _ => cases hf
  · exact ⟨none, _, tyx_l h, kit_ty (by decide +kernel)⟩
  · exact ⟨some xs, a, rfl, h, hl, hx⟩
/-- the word that a tuple begins with -/
def hdS : Option (List V) → Str
  | some (.str u :: _) => u
  | _ => ""
def tlS : Option (List V) → List V
  | some (_ :: r) => r
  | _ => []
def kS : List V → List Str
  | [] => []
  | .str z :: r => z :: kS r
  | _ :: r => kS r
def codeO (o : Option (List V)) : Bool := match findT tb_CODE_ROWS (hdS o) with
  | some ks => fitA (tlS o) (kS ks)
  | none => false
def dataO (o : Option (List V)) : Bool := match findT tb_DATA_ROWS (hdS o) with
  | some ks => fitA (tlS o) (kS ks)
  | none => false
theorem code_kinds {z : Str} {ks : List V} (h : findT tb_CODE_ROWS z = some ks) : ks = kst (kS ks) ∧ (∀ q ∈ kS ks, q ∈ kindsL) ∧ (kS ks).length ≤ 10 ∧ z ≠ "" := by
  unfold findT at h
  cases e : tb_CODE_ROWS.find? (fun p => decide (p.1 = z)) with
  | none => rw [e] at h; cases h
  | some p =>
    rw [e] at h
    have hm := List.mem_of_find?_eq_some e
    have hz : p.1 = z := of_decide_eq_true (List.find?_some (p := fun p : Str × List V => decide (p.1 = z)) e)
    have hk : p.2 = ks := Option.some.inj h
    subst hz hk
    have all : ∀ p ∈ tb_CODE_ROWS, p.2 = kst (kS p.2) ∧ (∀ q ∈ kS p.2, q ∈ kindsL) ∧ (kS p.2).length ≤ 10 ∧ p.1 ≠ "" := by decide +kernel
    exact all p hm
theorem data_kinds {z : Str} {ks : List V} (h : findT tb_DATA_ROWS z = some ks) : ks = kst (kS ks) ∧ (∀ q ∈ kS ks, q ∈ kindsL) ∧ (kS ks).length ≤ 10 ∧ z ≠ "" := by
  unfold findT at h
  cases e : tb_DATA_ROWS.find? (fun p => decide (p.1 = z)) with
  | none => rw [e] at h; cases h
  | some p =>
    rw [e] at h
    have hm := List.mem_of_find?_eq_some e
    have hz : p.1 = z := of_decide_eq_true (List.find?_some (p := fun p : Str × List V => decide (p.1 = z)) e)
    have hk : p.2 = ks := Option.some.inj h
    subst hz hk
    have all : ∀ p ∈ tb_DATA_ROWS, p.2 = kst (kS p.2) ∧ (∀ q ∈ kS p.2, q ∈ kindsL) ∧ (kS p.2).length ≤ 10 ∧ p.1 ≠ "" := by decide +kernel
    exact all p hm
theorem relO_d {α : Type} {R : α → Value → Prop} {v : Option α} {r : Option Value} (h : RelOpt R v r) : r.isSome = v.isSome ∧ ∀ i, v = some i → ∃ u, r = some u ∧ R i u := by
  cases v with
  | none =>
    cases r with
    | none => exact ⟨rfl, fun i e => nomatch e⟩
    | some u => exact h.elim
  | some i =>
    cases r with
    | none => exact h.elim
    | some u => exact ⟨rfl, fun j e => by cases e; exact ⟨u, rfl, h⟩⟩
theorem cut_tl (x : V) (r : List V) : cutV (x :: r) (some 1) none = r := by
  unfold cutV
  rw [show HT.sIx (x :: r).length 0 (some 1) = min 1 (x :: r).length from HT.sIx_nat _ 0 1, HT.sIx_none]
  rw [show min 1 (x :: r).length = 1 by rw [List.length_cons]; omega]
  show (r.take ((x :: r).length - 1)) = r
  rw [List.length_cons, Nat.add_sub_cancel, List.take_length]
section
variable {P : Program} {w : World} {K : PySem.W.Frag} {mg : Str → Option Value} {base : Heap} {Z : Fs}
/-! ### _fits, _fit -/
def sp_fits (K : PySem.W.Frag) : Sp := fun vs H Q _ => ∃ (x : V) (q : Str) (b : Addr) (n : Nat), vs = [x, .str q] ∧ Okv K H b n x ∧ q ∈ kindsL ∧ ∀ H' : Hp, Same H H' → Q (.bl (fitV q x)) H'
theorem ok_fits (T : Txt K w mg Z) : FnOk P w K mg base CX0 2 Z.a_fits Z.d_fits ["item", "kind"] (sp_fits K) := by
  have G_is_register : FnOk P w K mg base CX0 1 Z.a_is_register Z.d_is_register ["value"] (sp_is_register K) := ok_is_register T
  have G_is_name : FnOk P w K mg base CX0 1 Z.a_is_name Z.d_is_name ["value"] (sp_is_name K) := ok_is_name T
  have G_is_number : FnOk P w K mg base CX0 1 Z.a_is_number Z.d_is_number ["value", "least", "most"] (sp_is_number K) := ok_is_number T
  refine T.F_fits.ok sc_fits (fun vs H Q E h => ?_) (fun cdv A outer s H vs Q E hr h => ?_)
  · obtain ⟨x, q, b, n, rfl, _⟩ := h
    rfl
  · obtain ⟨x, q, b, n, rfl, ok, hq, k⟩ := h
    refine ⟨_, (pss_cons (ps_if (pt_cmpR op_eq (pv 1) pe_str (nomark _)) (pss_one (ps_ret (pe_call G_is_register (hr.mono (by omega)) (by rfl) T.m_is_register T.F_is_register.kp T.b_is_register .nil pass0 (pa_cons (pv 0) pa_nil)))) pss_nil)
      (pss_cons (ps_if (pt_cmpR op_eq (pv 1) pe_str (nomark _)) (pss_one (ps_ret (pe_call G_is_name (hr.mono (by omega)) (by rfl) T.m_is_name T.F_is_name.kp T.b_is_name .nil pass0 (pa_cons (pv 0) pa_nil)))) pss_nil)
      (pss_cons (ps_asg (pe_ix ix_kdict (pe_glob (v := .ref Z.c_BOUNDS) (by rfl) T.g_BOUNDS rfl) (pv 1) (fun _ _ => rfl)) (pg_tup (by rfl) (pgs_cons (pg_name (i := 2) sc_fits.nd rfl (Or.inl rfl)) (pgs_cons (pg_name (i := 3) sc_fits.nd rfl (Or.inl rfl)) pgs_nil))))
      (pss_one (ps_ret (pe_call G_is_number (hr.mono (by omega)) (by rfl) T.m_is_number T.F_is_number.kp T.b_is_number .nil pass0 (pa_cons (pv 0) (pa_cons (pv 2) (pa_cons (pv 3) pa_nil))))))))), ?_⟩
    refine ⟨.str q, rfl, rfl, _, rfl, ite2 (fun h1 => ?_) (fun h1 => ?_)⟩
    · have e1 : q = "R" := V.str.inj (of_decide_eq_true h1)
      refine ⟨x, rfl, x, b, n, rfl, ok, fun H' s' => ?_⟩
      have e : fitV q x = regV x := by
        unfold fitV
        rw [if_pos e1]
      rw [← e]
      exact k _ s'
    have e1 : q ≠ "R" := fun e => h1 (decide_eq_true (by rw [e]))
    refine ⟨.str q, rfl, rfl, _, rfl, ite2 (fun h2 => ?_) (fun h2 => ?_)⟩
    · have e2 : q = "N" := V.str.inj (of_decide_eq_true h2)
      refine ⟨x, rfl, x, b, n, rfl, ok, fun H' s' => ?_⟩
      have e : fitV q x = nmV x := by
        unfold fitV
        rw [if_neg e1, if_pos e2]
      rw [← e]
      exact k _ s'
    have e2 : q ≠ "N" := fun e => h2 (decide_eq_true (by rw [e]))
    obtain ⟨r, q1, q2⟩ := T.x_BOUNDS q
    obtain ⟨_, i2⟩ := relO_d q2
    have hb : findT tb_BOUNDS q = some [.int (bnd q).1, .int (bnd q).2] := by
      have all : ∀ q ∈ kindsL, q ≠ "R" → q ≠ "N" → findT tb_BOUNDS q = some [.int (bnd q).1, .int (bnd q).2] := by decide +kernel
      exact all q hq e1 e2
    obtain ⟨u, rfl, t, rfl, ht⟩ := i2 _ hb
    refine ⟨.str q, rfl, _, q, .ref t, rfl, rfl, ⟨_, _, _, T.D_BOUNDS.at_, T.D_BOUNDS.lit, q1, rfl⟩, t, _, rfl, ht H, rfl, _, _, rfl, _, _, rfl, rfl, ?_⟩
    refine ⟨x, rfl, _, rfl, _, rfl, x, _, _, b, n, rfl, ok, fun H' s' => ?_⟩
    have e : fitV q x = numV x (bnd q).1 (bnd q).2 := by
      unfold fitV
      rw [if_neg e1, if_neg e2]
    rw [← e]
    exact k _ s'
def sp_fit (K : PySem.W.Frag) : Sp := fun vs H Q _ => ∃ (a c : Addr) (xs : List V) (ks : List Str) (b : Addr) (n : Nat), vs = [.ref a, .ref c] ∧ SqT K H a xs ∧ SqT K H c (kst ks) ∧ (∀ x ∈ xs, Okv K H b n x) ∧ (∀ q ∈ ks, q ∈ kindsL) ∧ ks.length ≤ 10 ∧ ∀ H' : Hp, Same H H' → Q (.bl (fitA xs ks)) H'
theorem ok_fit (T : Txt K w mg Z) : FnOk P w K mg base CX0 3 Z.a_fit Z.d_fit ["items", "kinds"] (sp_fit K) := by
  have G_fits : FnOk P w K mg base CX0 2 Z.a_fits Z.d_fits ["item", "kind"] (sp_fits K) := ok_fits T
  refine T.F_fit.ok sc_fit (fun vs H Q E h => ?_) (fun cdv A outer s H vs Q E hr h => ?_)
  · obtain ⟨a, c, xs, ks, b, n, rfl, _⟩ := h
    rfl
  · obtain ⟨a, c, xs, ks, b, n, rfl, hx, hc, ok, hk, hl, k⟩ := h
    refine ⟨_, (pss_cons (ps_if (pt_cmpR op_ne (pe_callB call_len (by rfl) T.n_len boot_len (pa_cons (pv 0) pa_nil)) (pe_callB call_len (by rfl) T.n_len boot_len (pa_cons (pv 1) pa_nil)) (nomark _)) (pss_one (ps_ret pe_bl)) pss_nil)
      (pss_one (ps_ret (pe_callB (cr_all rfl) (by rfl) T.n_all boot_all (pa_cons (pe_lc (own := [("item", 2), ("kind", 3)]) (g := gTup K 2 (gCons (gName 2) (gCons (gName 3) gNil))) (tt := tYes) rfl sc_fit.nd (RZ.pi_zipA (by rfl) T.n_zip (pa_cons (pv 0) (pa_cons (pv 1) pa_nil))) (blkOk_by (N := N_fit) (sc := defScope s_fit) (by decide +kernel)) (fun _ _ _ _ _ => pg_tup rfl (pgs_cons (pg_name (i := 2) sc_fit.nd rfl (Or.inl rfl)) (pgs_cons (pg_name (i := 3) sc_fit.nd rfl (Or.inl rfl)) pgs_nil))) (fun _ _ _ _ _ => pts_nil) (fun _ _ _ _ _ => (pe_call G_fits (hr.mono (by omega)) (by rfl) T.m_fits T.F_fits.kp T.b_fits .nil pass0 (pa_cons (pv 2) (pa_cons (pv 3) pa_nil))))) pa_nil))))), ?_⟩
    refine ⟨.ref a, rfl, .ref a, xs.length, rfl, .inr ⟨_, hx, rfl⟩, .ref c, rfl, .ref c, (kst ks).length, rfl, .inr ⟨_, hc, rfl⟩, rfl, _, rfl, ?_⟩
    have lk : (kst ks).length = ks.length := List.length_map ..
    by_cases he : xs.length = ks.length
    · have e0 : (!decide (V.int (xs.length : Int) = V.int ((kst ks).length : Int))) = false := by simp [lk, he]
      rw [e0]
      refine iteF ⟨.ref a, rfl, .ref c, rfl, a, c, xs, kst ks, rfl, .inr ⟨hx, hc, fun D hD => ?_⟩⟩
      refine lc_it (walk_zipT (K := K) (xs := xs) (ys := kst ks) (n := xs.length) (by omega)) (fun i H' => Same H H' ∧ H' D = some (.lst (((List.zipWith fitV ks xs).take i).map V.bl))) ⟨Same.new hD, upd_same⟩ (fun i H' _ q => ⟨Same.sqT q.1 hx, Same.sqT q.1 hc⟩) ?_ ?_
      · rintro i v H2 H3 hi' ⟨s2, e2⟩ ⟨T', u, t, rfl, hT, rfl, hu, ht⟩
        obtain ⟨q, hq, rfl⟩ : ∃ q, ks[i]? = some q ∧ t = .str q := by
          have ht : (kst ks)[i]? = some t := ht
          unfold kst at ht
          rw [List.getElem?_map] at ht
          cases e : ks[i]? with
          | none => rw [e] at ht; cases ht
          | some q => rw [e] at ht; exact ⟨q, rfl, (Option.some.inj ht).symm⟩
        have hu : xs[i]? = some u := hu
        refine ⟨T', [u, .str q], rfl, SqT.of upd_same, rfl, u, [.str q], rfl, .str q, [], rfl, rfl, rfl, u, rfl, .str q, rfl, u, q, b, n, rfl, ((ok u (List.mem_of_getElem? hu)).stp (Same.stp s2)).stp (Stp.new hT), hk q (List.mem_of_getElem? hq), fun H4 s4 => ?_⟩
        have nDT : D ≠ T' := ne_of_none e2 hT
        refine ⟨_, s4 _ _ (by rw [upd_ne nDT]; exact e2), ?_, Same.put ((s2.trans (Same.new hT)).trans s4) hD, ?_⟩
        · rw [List.length_map, List.length_take]
          exact Nat.lt_of_le_of_lt (Nat.min_le_left _ _) (Nat.lt_of_lt_of_le hi' (Nat.le_trans (show xs.length ≤ 10 by omega) (by decide)))
        · have hz : (List.zipWith fitV ks xs)[i]? = some (fitV q u) := by
            rw [List.getElem?_zipWith, hq, hu]
          rw [upd_same, List.take_add_one, hz, List.map_append]
          rfl
      · rintro H' ⟨s2, e2⟩
        refine ⟨D, _, rfl, SqL.of e2, ?_⟩
        have e : ((List.zipWith fitV ks xs).take xs.length).all id = fitA xs ks := by
          rw [List.take_of_length_le (by rw [List.length_zipWith]; omega)]
          unfold fitA
          rw [decide_eq_true he, Bool.true_and]
        rw [e]
        exact k _ s2
    · have e0 : (!decide (V.int (xs.length : Int) = V.int ((kst ks).length : Int))) = true := by
        rw [lk]
        simp
        omega
      rw [e0]
      refine iteT ?_
      have e : fitA xs ks = false := by
        unfold fitA
        rw [decide_eq_false he, Bool.false_and]
      show Q (.bl false) H
      rw [← e]
      exact k _ (Same.refl _)
/-! ### _word_of, is_code_row, is_data_row -/
def sp_word_of (K : PySem.W.Frag) : Sp := fun vs H Q _ => ∃ (v : V) (b : Addr) (n : Nat) (o : Option (List V)), vs = [v] ∧ Tp K H b n v o ∧ ∀ H' : Hp, Same H H' → Q (.str (hdS o)) H'
theorem ok_word_of (T : Txt K w mg Z) : FnOk P w K mg base CX0 1 Z.a_word_of Z.d_word_of ["value"] (sp_word_of K) := by
  refine T.F_word_of.ok sc_word_of (fun vs H Q E h => ?_) (fun cdv A outer s H vs Q E hr h => ?_)
  · obtain ⟨v, b, n, o, rfl, _⟩ := h
    rfl
  · obtain ⟨v, b, n, o, rfl, tp, k⟩ := h
    refine ⟨_, (pss_cons (ps_if (PW.pt (pw_and (pt_val (pe_callB call_isi (by rfl) T.n_isinstance boot_isinstance (pa_cons (pv 0) (pa_cons (pe_bltn (v := .ty "tuple") (by rfl) T.n_tuple boot_tuple rfl) pa_nil)))) (pw_and (pt_cmpR op_gt (pe_callB call_len (by rfl) T.n_len boot_len (pa_cons (pv 0) pa_nil)) pe_int (nomark _)) (pw_and1 (pt_val (pe_callB call_isi (by rfl) T.n_isinstance boot_isinstance (pa_cons (pe_ix ix_tup (pv 0) pe_int (fun _ _ => rfl)) (pa_cons (pe_bltn (v := .ty "str") (by rfl) T.n_str boot_str rfl) pa_nil)))))))) (pss_one (ps_ret (pe_ix ix_tup (pv 0) pe_int (fun _ _ => rfl)))) pss_nil)
      (pss_one (ps_ret pe_str))), ?_⟩
    cases o with
    | none =>
      obtain ⟨t, ty, kt⟩ := tp
      exact ⟨v, rfl, v, .ty "tuple", t, _, _, rfl, .ty _, ty, kt, _, rfl, iteF (iteF (k _ (Same.refl _)))⟩
    | some xs =>
      obtain ⟨a, rfl, hx, hl, ok⟩ := tp
      refine ⟨.ref a, rfl, .ref a, .ty "tuple", _, _, true, rfl, .ty _, tyx_t hx, kit_ty (by decide +kernel), _, rfl, iteT ?_⟩
      refine ⟨.ref a, rfl, .ref a, xs.length, rfl, .inr ⟨_, hx, rfl⟩, _, _, rfl, rfl, _, rfl, ?_⟩
      cases xs with
      | nil => exact iteF (iteF (k _ (Same.refl _)))
      | cons x r =>
        refine iteY (by simp) ?_
        obtain ⟨t, ty, kS', _, _⟩ := (ok x (List.mem_cons_self ..)).ty
        refine ⟨.ref a, rfl, a, _, 0, x, rfl, rfl, hx, atI_nat (j := 0) rfl, x, .ty "str", t, _, _, rfl, .ty _, ty, kS', _, rfl, ?_⟩
        cases hv : isS x with
        | true =>
          obtain ⟨z, rfl⟩ := isS_of hv
          exact iteT ⟨.ref a, rfl, a, _, 0, .str z, rfl, rfl, hx, atI_nat (j := 0) rfl, k _ (Same.refl _)⟩
        | false =>
          refine iteF ?_
          have e : hdS (some (x :: r)) = "" := by
            cases x with
            | str z => cases hv
            | _ => rfl
          show Q (.str "") H
          rw [← e]
          exact k _ (Same.refl _)
def sp_is_code_row (K : PySem.W.Frag) : Sp := fun vs H Q _ => ∃ (v : V) (b : Addr) (n : Nat) (o : Option (List V)), vs = [v] ∧ Tp K H b n v o ∧ ∀ H' : Hp, Same H H' → Q (.bl (codeO o)) H'
theorem hd_some {o : Option (List V)} (h : hdS o ≠ "") : ∃ r, o = some (.str (hdS o) :: r) ∧ tlS o = r := by
  match o, h with
  | some (.str u :: r), _ => exact ⟨r, rfl, rfl⟩
  | some [], h => exact absurd rfl h
  | none, h => exact absurd rfl h
  | some (.non :: _), h => exact absurd rfl h
  | some (.bl _ :: _), h => exact absurd rfl h
  | some (.int _ :: _), h => exact absurd rfl h
  | some (.byt _ :: _), h => exact absurd rfl h
  | some (.flt _ :: _), h => exact absurd rfl h
  | some (.ref _ :: _), h => exact absurd rfl h
  | some (.ty _ :: _), h => exact absurd rfl h
theorem ok_is_code_row (T : Txt K w mg Z) : FnOk P w K mg base CX0 4 Z.a_is_code_row Z.d_is_code_row ["value"] (sp_is_code_row K) := by
  have G_word_of : FnOk P w K mg base CX0 1 Z.a_word_of Z.d_word_of ["value"] (sp_word_of K) := ok_word_of T
  have G_fit : FnOk P w K mg base CX0 3 Z.a_fit Z.d_fit ["items", "kinds"] (sp_fit K) := ok_fit T
  refine T.F_is_code_row.ok sc_is_code_row (fun vs H Q E h => ?_) (fun cdv A outer s H vs Q E hr h => ?_)
  · obtain ⟨v, b, n, o, rfl, _⟩ := h
    rfl
  · obtain ⟨v, b, n, o, rfl, tp, k⟩ := h
    refine ⟨_, (pss_cons (ps_set (i := 1) sc_is_code_row.nd rfl (Or.inl rfl) (pe_call G_word_of (hr.mono (by omega)) (by rfl) T.m_word_of T.F_word_of.kp T.b_word_of .nil pass0 (pa_cons (pv 0) pa_nil)))
      (pss_one (ps_ret (pe_and (pe_cmpR (op_in_kd T.D_CODE_ROWS) (pv 1) (pe_glob (v := .ref Z.c_CODE_ROWS) (by rfl) T.g_CODE_ROWS rfl) (by rfl)) (pe_one (pe_call G_fit (hr.mono (by omega)) (by rfl) T.m_fit T.F_fit.kp T.b_fit .nil pass0 (pa_cons (pe_slice sl_tup (pv 0) (po_some pe_int) po_none) (pa_cons (pe_ix ix_kdict (pe_glob (v := .ref Z.c_CODE_ROWS) (by rfl) T.g_CODE_ROWS rfl) (pv 1) (fun _ _ => rfl)) pa_nil)))))))), ?_⟩
    refine ⟨v, rfl, v, b, n, o, rfl, tp, fun H1 s1 => ?_⟩
    obtain ⟨r, q1, q2⟩ := T.x_CODE_ROWS (hdS o)
    obtain ⟨i1, i2⟩ := relO_d q2
    refine ⟨_, rfl, _, r, rfl, rfl, q1, _, rfl, ?_⟩
    rw [i1]
    cases hf : findT tb_CODE_ROWS (hdS o) with
    | none =>
      refine iteF ?_
      have e : codeO o = false := by
        unfold codeO
        rw [hf]
      rw [← e]
      exact k _ s1
    | some ks =>
      refine iteT ?_
      obtain ⟨c1, c2, c3, c4⟩ := code_kinds hf
      obtain ⟨rr, ho, htl⟩ := hd_some c4
      obtain ⟨u, rfl, t, rfl, ht⟩ := i2 _ hf
      rw [ho] at tp
      obtain ⟨a, rfl, hx, hl, ok⟩ := tp
      refine ⟨.ref a, rfl, 1, rfl, a, _, rfl, Same.sqT s1 hx, ?_, fun p hp => ?_⟩
      · rintro ⟨z, _⟩
        rw [show HT.sIx (V.str (hdS o) :: rr).length 0 (some 1) = min 1 (V.str (hdS o) :: rr).length from HT.sIx_nat _ 0 1, List.length_cons] at z
        omega
      · rw [cut_tl]
        have s2 : Same H1 (upd H1 p (.tup rr)) := Same.new hp
        have e2 : (upd H1 p (.tup rr)) p = some (.tup rr) := upd_same
        generalize upd H1 p (.tup rr) = H2 at s2 e2 ⊢
        refine ⟨_, rfl, _, hdS o, .ref t, rfl, rfl, ⟨_, _, _, T.D_CODE_ROWS.at_, T.D_CODE_ROWS.lit, q1, rfl⟩, p, t, rr, kS ks, b, n, rfl, SqT.of e2, (by rw [← c1]; exact ht H2), fun x m => ((ok x (List.mem_cons_of_mem _ m)).stp (Same.stp s1)).stp (Same.stp s2), c2, c3, fun H3 s3 => ?_⟩
        have e : codeO o = fitA rr (kS ks) := by
          unfold codeO
          rw [hf, htl]
        rw [← e]
        exact k _ ((s1.trans s2).trans s3)
def sp_is_data_row (K : PySem.W.Frag) : Sp := fun vs H Q _ => ∃ (v : V) (b : Addr) (n : Nat) (o : Option (List V)), vs = [v] ∧ Tp K H b n v o ∧ ∀ H' : Hp, Same H H' → Q (.bl (dataO o)) H'
theorem ok_is_data_row (T : Txt K w mg Z) : FnOk P w K mg base CX0 4 Z.a_is_data_row Z.d_is_data_row ["value"] (sp_is_data_row K) := by
  have G_word_of : FnOk P w K mg base CX0 1 Z.a_word_of Z.d_word_of ["value"] (sp_word_of K) := ok_word_of T
  have G_fit : FnOk P w K mg base CX0 3 Z.a_fit Z.d_fit ["items", "kinds"] (sp_fit K) := ok_fit T
  refine T.F_is_data_row.ok sc_is_data_row (fun vs H Q E h => ?_) (fun cdv A outer s H vs Q E hr h => ?_)
  · obtain ⟨v, b, n, o, rfl, _⟩ := h
    rfl
  · obtain ⟨v, b, n, o, rfl, tp, k⟩ := h
    refine ⟨_, (pss_cons (ps_set (i := 1) sc_is_data_row.nd rfl (Or.inl rfl) (pe_call G_word_of (hr.mono (by omega)) (by rfl) T.m_word_of T.F_word_of.kp T.b_word_of .nil pass0 (pa_cons (pv 0) pa_nil)))
      (pss_one (ps_ret (pe_and (pe_cmpR (op_in_kd T.D_DATA_ROWS) (pv 1) (pe_glob (v := .ref Z.c_DATA_ROWS) (by rfl) T.g_DATA_ROWS rfl) (by rfl)) (pe_one (pe_call G_fit (hr.mono (by omega)) (by rfl) T.m_fit T.F_fit.kp T.b_fit .nil pass0 (pa_cons (pe_slice sl_tup (pv 0) (po_some pe_int) po_none) (pa_cons (pe_ix ix_kdict (pe_glob (v := .ref Z.c_DATA_ROWS) (by rfl) T.g_DATA_ROWS rfl) (pv 1) (fun _ _ => rfl)) pa_nil)))))))), ?_⟩
    refine ⟨v, rfl, v, b, n, o, rfl, tp, fun H1 s1 => ?_⟩
    obtain ⟨r, q1, q2⟩ := T.x_DATA_ROWS (hdS o)
    obtain ⟨i1, i2⟩ := relO_d q2
    refine ⟨_, rfl, _, r, rfl, rfl, q1, _, rfl, ?_⟩
    rw [i1]
    cases hf : findT tb_DATA_ROWS (hdS o) with
    | none =>
      refine iteF ?_
      have e : dataO o = false := by
        unfold dataO
        rw [hf]
      rw [← e]
      exact k _ s1
    | some ks =>
      refine iteT ?_
      obtain ⟨c1, c2, c3, c4⟩ := data_kinds hf
      obtain ⟨rr, ho, htl⟩ := hd_some c4
      obtain ⟨u, rfl, t, rfl, ht⟩ := i2 _ hf
      rw [ho] at tp
      obtain ⟨a, rfl, hx, hl, ok⟩ := tp
      refine ⟨.ref a, rfl, 1, rfl, a, _, rfl, Same.sqT s1 hx, ?_, fun p hp => ?_⟩
      · rintro ⟨z, _⟩
        rw [show HT.sIx (V.str (hdS o) :: rr).length 0 (some 1) = min 1 (V.str (hdS o) :: rr).length from HT.sIx_nat _ 0 1, List.length_cons] at z
        omega
      · rw [cut_tl]
        have s2 : Same H1 (upd H1 p (.tup rr)) := Same.new hp
        have e2 : (upd H1 p (.tup rr)) p = some (.tup rr) := upd_same
        generalize upd H1 p (.tup rr) = H2 at s2 e2 ⊢
        refine ⟨_, rfl, _, hdS o, .ref t, rfl, rfl, ⟨_, _, _, T.D_DATA_ROWS.at_, T.D_DATA_ROWS.lit, q1, rfl⟩, p, t, rr, kS ks, b, n, rfl, SqT.of e2, (by rw [← c1]; exact ht H2), fun x m => ((ok x (List.mem_cons_of_mem _ m)).stp (Same.stp s1)).stp (Same.stp s2), c2, c3, fun H3 s3 => ?_⟩
        have e : dataO o = fitA rr (kS ks) := by
          unfold dataO
          rw [hf, htl]
        rw [← e]
        exact k _ ((s1.trans s2).trans s3)
end

/-! ### the law's own judgement of rows -/
theorem fitV_R (x : V) : fitV "R" x = regV x := by
  unfold fitV
  rw [if_pos rfl]
theorem fitV_N (x : V) : fitV "N" x = nmV x := by
  unfold fitV
  rw [if_neg (by decide +kernel), if_pos rfl]
theorem fitV_num {q : Str} (x : V) (h1 : q ≠ "R") (h2 : q ≠ "N") : fitV q x = numV x (bnd q).1 (bnd q).2 := by
  unfold fitV
  rw [if_neg h1, if_neg h2]
theorem fitA_0 (r : List V) : fitA r [] = decide (r.length = 0) := by
  unfold fitA
  simp
theorem fitA_1 (q : Str) (r : List V) : fitA r [q] = (decide (r.length = 1) && fitV q (r.getD 0 .non)) := by
  match r with
  | [] => rfl
  | [x] => simp [fitA]
  | x :: y :: t => simp [fitA]
theorem fitA_2 (q s : Str) (r : List V) : fitA r [q, s] = (decide (r.length = 2) && (fitV q (r.getD 0 .non) && fitV s (r.getD 1 .non))) := by
  match r with
  | [] => rfl
  | [x] => rfl
  | [x, y] => simp [fitA]
  | x :: y :: z :: t => simp [fitA]
theorem fitA_3 (q s t : Str) (r : List V) : fitA r [q, s, t] = (decide (r.length = 3) && (fitV q (r.getD 0 .non) && (fitV s (r.getD 1 .non) && fitV t (r.getD 2 .non)))) := by
  match r with
  | [] => rfl
  | [x] => rfl
  | [x, y] => rfl
  | [x, y, z] => simp [fitA]
  | x :: y :: z :: a :: l => simp [fitA]
theorem codeO_of {u : Str} {r : List V} {ks : List V} (h : findT tb_CODE_ROWS u = some ks) : codeO (some (.str u :: r)) = fitA r (kS ks) := by
  show (match findT tb_CODE_ROWS u with | some ks => fitA r (kS ks) | none => false) = _
  rw [h]
theorem codeO_no {u : Str} {r : List V} (h : findT tb_CODE_ROWS u = none) : codeO (some (.str u :: r)) = false := by
  show (match findT tb_CODE_ROWS u with | some ks => fitA r (kS ks) | none => false) = _
  rw [h]
theorem dataO_of {u : Str} {r : List V} {ks : List V} (h : findT tb_DATA_ROWS u = some ks) : dataO (some (.str u :: r)) = fitA r (kS ks) := by
  show (match findT tb_DATA_ROWS u with | some ks => fitA r (kS ks) | none => false) = _
  rw [h]
theorem dataO_no {u : Str} {r : List V} (h : findT tb_DATA_ROWS u = none) : dataO (some (.str u :: r)) = false := by
  show (match findT tb_DATA_ROWS u with | some ks => fitA r (kS ks) | none => false) = _
  rw [h]
theorem findT_no {α : Type} (l : List (Str × α)) (u : Str) (h : u ∉ l.map (·.1)) : findT l u = none := by
  unfold findT
  rw [List.find?_eq_none.mpr (fun x hx z => h (List.mem_map.mpr ⟨x, hx, of_decide_eq_true z⟩))]
  rfl
theorem cls0 : ∀ u : Str, u ∈ tb_CODE_ROWS.map (·.1) → (u = "back" ∨ u = "halt") ∨ u = "room" ∨ (u = "jump" ∨ u = "call") ∨ (u = "callby" ∨ u = "out") ∨ (u = "name" ∨ u = "ifzero") ∨ u = "put" ∨ (u = "add" ∨ u = "take") ∨ (u = "load" ∨ u = "store") := by
  have h : ∀ u ∈ tb_CODE_ROWS.map (fun p : Str × List V => p.1), (u = Str.ofString "back" ∨ u = Str.ofString "halt") ∨ u = Str.ofString "room" ∨ (u = Str.ofString "jump" ∨ u = Str.ofString "call") ∨ (u = Str.ofString "callby" ∨ u = Str.ofString "out") ∨ (u = Str.ofString "name" ∨ u = Str.ofString "ifzero") ∨ u = Str.ofString "put" ∨ (u = Str.ofString "add" ∨ u = Str.ofString "take") ∨ (u = Str.ofString "load" ∨ u = Str.ofString "store") := by
    decide +kernel
  exact h
theorem cls (u : Str) : (u = "back" ∨ u = "halt") ∨ u = "room" ∨ (u = "jump" ∨ u = "call") ∨ (u = "callby" ∨ u = "out") ∨ (u = "name" ∨ u = "ifzero") ∨ u = "put" ∨ (u = "add" ∨ u = "take") ∨ (u = "load" ∨ u = "store") ∨ findT tb_CODE_ROWS u = none := by
  by_cases h : u ∈ tb_CODE_ROWS.map (·.1)
  · rcases cls0 u h with c | c | c | c | c | c | c | c
    · exact .inl c
    · exact .inr (.inl c)
    · exact .inr (.inr (.inl c))
    · exact .inr (.inr (.inr (.inl c)))
    · exact .inr (.inr (.inr (.inr (.inl c))))
    · exact .inr (.inr (.inr (.inr (.inr (.inl c)))))
    · exact .inr (.inr (.inr (.inr (.inr (.inr (.inl c))))))
    · exact .inr (.inr (.inr (.inr (.inr (.inr (.inr (.inl c)))))))
  · exact .inr (.inr (.inr (.inr (.inr (.inr (.inr (.inr (findT_no _ _ h))))))))
theorem clsD0 : ∀ u : Str, u ∈ tb_DATA_ROWS.map (·.1) → u = "word" ∨ u = "address" ∨ u = "room" := by
  have h : ∀ u ∈ tb_DATA_ROWS.map (fun p : Str × List V => p.1), u = Str.ofString "word" ∨ u = Str.ofString "address" ∨ u = Str.ofString "room" := by
    decide +kernel
  exact h
theorem clsD (u : Str) : u = "word" ∨ u = "address" ∨ u = "room" ∨ findT tb_DATA_ROWS u = none := by
  by_cases h : u ∈ tb_DATA_ROWS.map (·.1)
  · rcases clsD0 u h with c | c | c
    · exact .inl c
    · exact .inr (.inl c)
    · exact .inr (.inr (.inl c))
  · exact .inr (.inr (.inr (findT_no _ _ h)))
theorem in2 {u a b : Str} : inV (.str u) [.str a, .str b] = true ↔ (u = a ∨ u = b) := by
  show ((a == u) || ((b == u) || false)) = true ↔ _
  rw [Bool.or_false, Bool.or_eq_true, beq_iff_eq, beq_iff_eq]
  exact ⟨fun h => h.imp Eq.symm Eq.symm, fun h => h.imp Eq.symm Eq.symm⟩
theorem in2f {u a b : Str} : inV (.str u) [.str a, .str b] = false ↔ ¬ (u = a ∨ u = b) := by
  rw [← in2, Bool.not_eq_true]
section
theorem co_0 {u : Str} {r : List V} (h : u = "back" ∨ u = "halt") : codeO (some (.str u :: r)) = decide (r.length = 0) := by
  rcases h with rfl | rfl
  · exact (codeO_of (ks := []) (by decide +kernel)).trans (fitA_0 r)
  · exact (codeO_of (ks := []) (by decide +kernel)).trans (fitA_0 r)
theorem co_room {r : List V} : codeO (some (.str "room" :: r)) = (decide (r.length = 1) && numV (r.getD 0 .non) 1 120) := by
  rw [codeO_of (ks := kst ["k"]) (by decide +kernel)]
  show fitA r ["k"] = _
  rw [fitA_1, fitV_num _ (by decide +kernel) (by decide +kernel)]
  rfl
theorem co_N {u : Str} {r : List V} (h : u = "jump" ∨ u = "call") : codeO (some (.str u :: r)) = (decide (r.length = 1) && nmV (r.getD 0 .non)) := by
  have e : codeO (some (.str u :: r)) = fitA r ["N"] := by
    rcases h with rfl | rfl
    · exact codeO_of (ks := kst ["N"]) (by decide +kernel)
    · exact codeO_of (ks := kst ["N"]) (by decide +kernel)
  rw [e, fitA_1, fitV_N]
theorem co_R {u : Str} {r : List V} (h : u = "callby" ∨ u = "out") : codeO (some (.str u :: r)) = (decide (r.length = 1) && regV (r.getD 0 .non)) := by
  have e : codeO (some (.str u :: r)) = fitA r ["R"] := by
    rcases h with rfl | rfl
    · exact codeO_of (ks := kst ["R"]) (by decide +kernel)
    · exact codeO_of (ks := kst ["R"]) (by decide +kernel)
  rw [e, fitA_1, fitV_R]
theorem co_RN {u : Str} {r : List V} (h : u = "name" ∨ u = "ifzero") : codeO (some (.str u :: r)) = (decide (r.length = 2) && (regV (r.getD 0 .non) && nmV (r.getD 1 .non))) := by
  have e : codeO (some (.str u :: r)) = fitA r ["R", "N"] := by
    rcases h with rfl | rfl
    · exact codeO_of (ks := kst ["R", "N"]) (by decide +kernel)
    · exact codeO_of (ks := kst ["R", "N"]) (by decide +kernel)
  rw [e, fitA_2, fitV_R, fitV_N]
theorem co_put {r : List V} : codeO (some (.str "put" :: r)) = (decide (r.length = 2) && (regV (r.getD 0 .non) && numV (r.getD 1 .non) 0 65535)) := by
  have e : codeO (some (.str "put" :: r)) = fitA r ["R", "n"] := codeO_of (ks := kst ["R", "n"]) (by decide +kernel)
  rw [e, fitA_2, fitV_R, fitV_num _ (by decide +kernel) (by decide +kernel)]
  rfl
theorem co_RR {u : Str} {r : List V} (h : u = "add" ∨ u = "take") : codeO (some (.str u :: r)) = (decide (r.length = 2) && (regV (r.getD 0 .non) && regV (r.getD 1 .non))) := by
  have e : codeO (some (.str u :: r)) = fitA r ["R", "R"] := by
    rcases h with rfl | rfl
    · exact codeO_of (ks := kst ["R", "R"]) (by decide +kernel)
    · exact codeO_of (ks := kst ["R", "R"]) (by decide +kernel)
  rw [e, fitA_2, fitV_R, fitV_R]
theorem co_RRd {u : Str} {r : List V} (h : u = "load" ∨ u = "store") : codeO (some (.str u :: r)) = (decide (r.length = 3) && (regV (r.getD 0 .non) && (regV (r.getD 1 .non) && numV (r.getD 2 .non) 0 15))) := by
  have e : codeO (some (.str u :: r)) = fitA r ["R", "R", "d"] := by
    rcases h with rfl | rfl
    · exact codeO_of (ks := kst ["R", "R", "d"]) (by decide +kernel)
    · exact codeO_of (ks := kst ["R", "R", "d"]) (by decide +kernel)
  rw [e, fitA_3, fitV_R, fitV_R, fitV_num _ (by decide +kernel) (by decide +kernel)]
  rfl
theorem da_word {r : List V} : dataO (some (.str "word" :: r)) = (decide (r.length = 1) && numV (r.getD 0 .non) 0 65535) := by
  have e : dataO (some (.str "word" :: r)) = fitA r ["n"] := dataO_of (ks := kst ["n"]) (by decide +kernel)
  rw [e, fitA_1, fitV_num _ (by decide +kernel) (by decide +kernel)]
  rfl
theorem da_addr {r : List V} : dataO (some (.str "address" :: r)) = (decide (r.length = 1) && nmV (r.getD 0 .non)) := by
  have e : dataO (some (.str "address" :: r)) = fitA r ["N"] := dataO_of (ks := kst ["N"]) (by decide +kernel)
  rw [e, fitA_1, fitV_N]
theorem da_room {r : List V} : dataO (some (.str "room" :: r)) = (decide (r.length = 1) && numV (r.getD 0 .non) 1 120) := by
  have e : dataO (some (.str "room" :: r)) = fitA r ["k"] := dataO_of (ks := kst ["k"]) (by decide +kernel)
  rw [e, fitA_1, fitV_num _ (by decide +kernel) (by decide +kernel)]
  rfl
/-- what is no row for want of a first register -/
theorem co_no0 {u : Str} {r : List V} (n1 : ¬ (u = "back" ∨ u = "halt")) (n2 : u ≠ "room") (n3 : ¬ (u = "jump" ∨ u = "call")) (h : regV (r.getD 0 .non) = false) : codeO (some (.str u :: r)) = false := by
  rcases cls u with c | c | c | c | c | c | c | c | c
  · exact absurd c n1
  · exact absurd c n2
  · exact absurd c n3
  · rw [co_R c, h, Bool.and_false]
  · rw [co_RN c, h, Bool.false_and, Bool.and_false]
  · subst c
    rw [co_put, h, Bool.false_and, Bool.and_false]
  · rw [co_RR c, h, Bool.false_and, Bool.and_false]
  · rw [co_RRd c, h, Bool.false_and, Bool.and_false]
  · exact codeO_no c
theorem co_no1 {u : Str} {r : List V} (n1 : ¬ (u = "back" ∨ u = "halt")) (n2 : u ≠ "room") (n3 : ¬ (u = "jump" ∨ u = "call")) (n4 : ¬ (u = "callby" ∨ u = "out")) (n5 : ¬ (u = "name" ∨ u = "ifzero")) (n6 : u ≠ "put") (h : regV (r.getD 1 .non) = false) : codeO (some (.str u :: r)) = false := by
  rcases cls u with c | c | c | c | c | c | c | c | c
  · exact absurd c n1
  · exact absurd c n2
  · exact absurd c n3
  · exact absurd c n4
  · exact absurd c n5
  · exact absurd c n6
  · rw [co_RR c, h, Bool.and_false, Bool.and_false]
  · rw [co_RRd c, h, Bool.false_and, Bool.and_false, Bool.and_false]
  · exact codeO_no c
variable {P : Program} {w : World} {K : PySem.W.Frag} {mg : Str → Option Value} {base : Heap} {Z : Fs}
theorem getD_at {r : List V} {i : Nat} (h : i < r.length) : atI r (i : Int) = some (r.getD i .non) ∧ r.getD i .non ∈ r := by
  have e : r.getD i .non = r[i] := by rw [List.getD_eq_getElem?_getD, List.getElem?_eq_getElem h]; rfl
  rw [e]
  exact ⟨atI_nat (List.getElem?_eq_getElem h), List.getElem_mem h⟩
theorem reg_none : regV .non = false := rfl
end

/-! ### drawn rows are rows -/
def Rwy (ts : List Str) (xs : List V) : Prop := CRow ts xs ∨ DRow ts xs
def hd0 (xs : List V) : V := xs.getD 0 .non
def closL : List V := [.str "jump", .str "halt", .str "back"]
def nameL : List V := [.str "name", .str "jump", .str "ifzero", .str "call", .str "address"]
/-- the last item -/
def lastV (xs : List V) : V := (atI xs (-1)).getD .non
/-- the name in a row -/
def namV (xs : List V) : V := if inV (hd0 xs) nameL then lastV xs else .non
theorem regV_of {r : V} (h : r ∈ regs) : regV r = true := by
  have all : ∀ r ∈ regs, regV r = true := by decide +kernel
  exact all r h
theorem reg_str {r : V} (h : r ∈ regs) : ∃ z, r = .str z ∧ StrK z := by
  have e := regV_of h
  simp only [regs, List.mem_cons, List.not_mem_nil, or_false] at h
  rcases h with rfl | rfl | rfl
  · exact ⟨_, rfl, by decide +kernel, by decide +kernel⟩
  · exact ⟨_, rfl, by decide +kernel, by decide +kernel⟩
  · exact ⟨_, rfl, by decide +kernel, by decide +kernel⟩
theorem Okv.reg {K : PySem.W.Frag} {H : Hp} {b : Addr} {n : Nat} {r : V} (h : r ∈ regs) : Okv K H b n r := by
  obtain ⟨z, rfl, hz⟩ := reg_str h
  exact .str hz
theorem nmV_of {z : Str} (h : Nm z) : nmV (.str z) = true := by
  obtain ⟨h1, h2, h3⟩ := h
  simp [nmV, h1, h2, h3]
theorem numV_of {i lo hi : Int} (h0 : lo ≤ i) (h1 : i ≤ hi) : numV (.int i) lo hi = true := by
  simp [numV, h0, h1]
section
variable {K : PySem.W.Frag} {H : Hp} {b : Addr} {ts : List Str} {xs : List V}
theorem CRow.ok (hz : ∀ z ∈ ts, Nm z) (h : CRow ts xs) : (∀ n, ∀ x ∈ xs, Okv K H b n x) ∧ 1 ≤ xs.length ∧ xs.length ≤ 4 ∧ codeO (some xs) = true := by
  cases h with
  | put hr h0 h1 => exact ⟨fun n => memc (.lit (by decide +kernel)) (memc (.reg hr) (mem1 .int)), by simp, by simp, by rw [co_put]; exact Bool.and_eq_true_iff.mpr ⟨rfl, Bool.and_eq_true_iff.mpr ⟨regV_of hr, numV_of h0 h1⟩⟩⟩
  | name hr ht => exact ⟨fun n => memc (.lit (by decide +kernel)) (memc (.reg hr) (mem1 (.str (hz _ ht).strK))), by simp, by simp, by rw [co_RN (.inl rfl)]; exact Bool.and_eq_true_iff.mpr ⟨rfl, Bool.and_eq_true_iff.mpr ⟨regV_of hr, nmV_of (hz _ ht)⟩⟩⟩
  | ifzero hr ht => exact ⟨fun n => memc (.lit (by decide +kernel)) (memc (.reg hr) (mem1 (.str (hz _ ht).strK))), by simp, by simp, by rw [co_RN (.inr rfl)]; exact Bool.and_eq_true_iff.mpr ⟨rfl, Bool.and_eq_true_iff.mpr ⟨regV_of hr, nmV_of (hz _ ht)⟩⟩⟩
  | add hr hs => exact ⟨fun n => memc (.lit (by decide +kernel)) (memc (.reg hr) (mem1 (.reg hs))), by simp, by simp, by rw [co_RR (.inl rfl)]; exact Bool.and_eq_true_iff.mpr ⟨rfl, Bool.and_eq_true_iff.mpr ⟨regV_of hr, regV_of hs⟩⟩⟩
  | take hr hs => exact ⟨fun n => memc (.lit (by decide +kernel)) (memc (.reg hr) (mem1 (.reg hs))), by simp, by simp, by rw [co_RR (.inr rfl)]; exact Bool.and_eq_true_iff.mpr ⟨rfl, Bool.and_eq_true_iff.mpr ⟨regV_of hr, regV_of hs⟩⟩⟩
  | load hr hs h0 h1 => exact ⟨fun n => memc (.lit (by decide +kernel)) (memc (.reg hr) (memc (.reg hs) (mem1 .int))), by simp, by simp, by rw [co_RRd (.inl rfl)]; exact Bool.and_eq_true_iff.mpr ⟨rfl, Bool.and_eq_true_iff.mpr ⟨regV_of hr, Bool.and_eq_true_iff.mpr ⟨regV_of hs, numV_of h0 h1⟩⟩⟩⟩
  | store hr hs h0 h1 => exact ⟨fun n => memc (.lit (by decide +kernel)) (memc (.reg hr) (memc (.reg hs) (mem1 .int))), by simp, by simp, by rw [co_RRd (.inr rfl)]; exact Bool.and_eq_true_iff.mpr ⟨rfl, Bool.and_eq_true_iff.mpr ⟨regV_of hr, Bool.and_eq_true_iff.mpr ⟨regV_of hs, numV_of h0 h1⟩⟩⟩⟩
  | jump ht => exact ⟨fun n => memc (.lit (by decide +kernel)) (mem1 (.str (hz _ ht).strK)), by simp, by simp, by rw [co_N (.inl rfl)]; exact Bool.and_eq_true_iff.mpr ⟨rfl, nmV_of (hz _ ht)⟩⟩
  | call ht => exact ⟨fun n => memc (.lit (by decide +kernel)) (mem1 (.str (hz _ ht).strK)), by simp, by simp, by rw [co_N (.inr rfl)]; exact Bool.and_eq_true_iff.mpr ⟨rfl, nmV_of (hz _ ht)⟩⟩
  | callby hr => exact ⟨fun n => memc (.lit (by decide +kernel)) (mem1 (.reg hr)), by simp, by simp, by rw [co_R (.inl rfl)]; exact Bool.and_eq_true_iff.mpr ⟨rfl, regV_of hr⟩⟩
  | out hr => exact ⟨fun n => memc (.lit (by decide +kernel)) (mem1 (.reg hr)), by simp, by simp, by rw [co_R (.inr rfl)]; exact Bool.and_eq_true_iff.mpr ⟨rfl, regV_of hr⟩⟩
  | back => exact ⟨fun n => mem1 (.lit (by decide +kernel)), by simp, by simp, by rw [co_0 (.inl rfl)]; rfl⟩
  | halt => exact ⟨fun n => mem1 (.lit (by decide +kernel)), by simp, by simp, by rw [co_0 (.inr rfl)]; rfl⟩
  | room h0 h1 => exact ⟨fun n => memc (.lit (by decide +kernel)) (mem1 .int), by simp, by simp, by rw [co_room]; exact Bool.and_eq_true_iff.mpr ⟨rfl, numV_of h0 h1⟩⟩
theorem DRow.ok (hz : ∀ z ∈ ts, Nm z) (h : DRow ts xs) : (∀ n, ∀ x ∈ xs, Okv K H b n x) ∧ 1 ≤ xs.length ∧ xs.length ≤ 4 ∧ dataO (some xs) = true ∧ inV (hd0 xs) closL = false := by
  cases h with
  | word h0 h1 => exact ⟨fun n => memc (.lit (by decide +kernel)) (mem1 .int), by simp, by simp, by rw [da_word]; exact Bool.and_eq_true_iff.mpr ⟨rfl, numV_of h0 h1⟩, rfl⟩
  | address ht => exact ⟨fun n => memc (.lit (by decide +kernel)) (mem1 (.str (hz _ ht).strK)), by simp, by simp, by rw [da_addr]; exact Bool.and_eq_true_iff.mpr ⟨rfl, nmV_of (hz _ ht)⟩, rfl⟩
  | room h0 h1 => exact ⟨fun n => memc (.lit (by decide +kernel)) (mem1 .int), by simp, by simp, by rw [da_room]; exact Bool.and_eq_true_iff.mpr ⟨rfl, numV_of h0 h1⟩, rfl⟩
theorem Rwy.ok (hz : ∀ z ∈ ts, Nm z) (h : Rwy ts xs) : (∀ n, ∀ x ∈ xs, Okv K H b n x) ∧ 1 ≤ xs.length ∧ xs.length ≤ 4 := by
  rcases h with h | h
  · obtain ⟨h1, h2, h3, _⟩ := h.ok (K := K) (H := H) (b := b) hz
    exact ⟨h1, h2, h3⟩
  · obtain ⟨h1, h2, h3, _⟩ := h.ok (K := K) (H := H) (b := b) hz
    exact ⟨h1, h2, h3⟩
theorem Rwy.tp {a : Addr} (hz : ∀ z ∈ ts, Nm z) (h : Rwy ts xs) (e : SqT K H a xs) : Tp K H a 0 (.ref a) (some xs) :=
  ⟨a, rfl, e, Nat.le_trans (h.ok (K := K) (H := H) (b := a) hz).2.2 (by decide), (h.ok hz).1 0⟩
theorem Rwy.str (h : Rwy ts xs) : flatV (hd0 xs) = true := by
  rcases h with h | h
  · cases h <;> rfl
  · cases h <;> rfl
theorem Rwy.hd (h : Rwy ts xs) : atI xs 0 = some (hd0 xs) := by
  have l1 : 1 ≤ xs.length := by
    rcases h with h | h
    · cases h <;> simp
    · cases h <;> simp
  exact (getD_at (i := 0) (by omega)).1
end
section
variable {P : Program} {w : World} {K : PySem.W.Frag} {mg : Str → Option Value} {base : Heap} {Z : Fs}
def sp_is_closing (K : PySem.W.Frag) : Sp := fun vs H Q _ => ∃ (a : Addr) (xs : List V) (ts : List Str), vs = [.ref a] ∧ SqT K H a xs ∧ (∀ z ∈ ts, Nm z) ∧ Rwy ts xs ∧ ∀ H' : Hp, Same H H' → Q (.bl (inV (hd0 xs) closL)) H'
theorem ok_is_closing (T : Txt K w mg Z) : FnOk P w K mg base CX0 5 Z.a_is_closing Z.d_is_closing ["row"] (sp_is_closing K) := by
  have G_is_code_row : FnOk P w K mg base CX0 4 Z.a_is_code_row Z.d_is_code_row ["value"] (sp_is_code_row K) := ok_is_code_row T
  refine T.F_is_closing.ok sc_is_closing (fun vs H Q E h => ?_) (fun cdv A outer s H vs Q E hr h => ?_)
  · obtain ⟨a, xs, ts, rfl, _⟩ := h
    rfl
  · obtain ⟨a, xs, ts, rfl, hx, hz, hr', k⟩ := h
    refine ⟨_, (pss_one (ps_ret (pe_and (pe_call G_is_code_row (hr.mono (by omega)) (by rfl) T.m_is_code_row T.F_is_code_row.kp T.b_is_code_row .nil pass0 (pa_cons (pv 0) pa_nil)) (pe_one (pe_cmpR (op_in_seq : OpR _ _ (rIn K false)) (pe_ix ix_tup (pv 0) pe_int (fun _ _ => rfl)) (pe_glob (v := .ref Z.c_CLOSING) (by rfl) T.g_CLOSING rfl) (by rfl)))))), ?_⟩
    refine ⟨.ref a, rfl, .ref a, a, 0, some xs, rfl, hr'.tp hz hx, fun H1 s1 => ⟨_, rfl, ?_⟩⟩
    have hd := hr'.hd
    cases hc : codeO (some xs) with
    | true =>
      refine iteT ⟨.ref a, rfl, a, xs, 0, _, rfl, rfl, Same.sqT s1 hx, hd, _, closL, rfl, .inr (T.v_CLOSING H1), hr'.str, rfl, ?_⟩
      exact k _ s1
    | false =>
      refine iteF ?_
      rcases hr' with h | h
      · rw [(h.ok (K := K) (H := H) (b := a) hz).2.2.2] at hc
        cases hc
      · show Q (.bl false) H1
        rw [← (h.ok (K := K) (H := H) (b := a) hz).2.2.2.2]
        exact k _ s1
end


/-! ### rows, pieces: what stands in the heap -/
def RowsIn (H : Hp) (as : List Addr) (rs : List (List V)) : Prop := Paired (fun a xs => H a = some (.tup xs)) as rs
/-- no tuple is lost -/
def TupS (H H' : Hp) : Prop := ∀ a xs, H a = some (.tup xs) → H' a = some (.tup xs)
theorem Same.tups {H H' : Hp} (s : Same H H') : TupS H H' := fun a xs e => s _ _ e
theorem Stp.tups {H H' : Hp} {b l : Addr} (s : Stp b H H') (B : Bag H b l) : TupS H H' := fun a xs e => by
  obtain ⟨_, _, _, _, _, h1, _⟩ := B
  exact s _ _ (ne_of e h1 (by intro z; cases z)) e
theorem TupS.trans {H H' H'' : Hp} (s : TupS H H') (t : TupS H' H'') : TupS H H'' := fun a xs e => t _ _ (s _ _ e)
theorem TupS.put {H H' : Hp} {p : Addr} {o : HO} (s : TupS H H') (h : ∀ xs, H' p ≠ some (.tup xs)) : TupS H (upd H' p o) := fun a xs e => by
  have q := s a xs e
  by_cases z : a = p
  · rw [z] at q
    exact absurd q (h xs)
  · rw [upd_ne z]
    exact q
theorem RowsIn.tups {H H' : Hp} {as : List Addr} {rs : List (List V)} (s : TupS H H') (h : RowsIn H as rs) : RowsIn H' as rs := Paired.mapP h fun _ _ e => s _ _ e
theorem RowsIn.len {H : Hp} {as : List Addr} {rs : List (List V)} (h : RowsIn H as rs) : as.length = rs.length := Paired.length h
theorem RowsIn.get {H : Hp} : ∀ {as : List Addr} {rs : List (List V)} (h : RowsIn H as rs) {i : Nat} {v : V}, (as.map V.ref)[i]? = some v → ∃ a xs, v = .ref a ∧ as[i]? = some a ∧ rs[i]? = some xs ∧ H a = some (.tup xs)
  | _, _, .nil, i, v, e => by cases e
  | a :: _, xs :: _, .cons r _, 0, v, e => ⟨a, xs, (Option.some.inj e).symm, rfl, rfl, r⟩
  | _ :: _, _ :: _, .cons _ t, i + 1, v, e => RowsIn.get t (i := i) e
theorem RowsIn.append {H : Hp} : ∀ {as bs : List Addr} {rs ss : List (List V)}, RowsIn H as rs → RowsIn H bs ss → RowsIn H (as ++ bs) (rs ++ ss)
  | _, _, _, _, .nil, s => s
  | _, _, _, _, .cons r t, s => .cons r (RowsIn.append t s)
/-- a list or a tuple -/
def SeqA (K : PySem.W.Frag) (H : Hp) (r : Addr) (vs : List V) : Prop := SqL K H r vs ∨ SqT K H r vs
theorem SeqA.same {K : PySem.W.Frag} {H H' : Hp} {r : Addr} {vs : List V} (s : Same H H') (h : SeqA K H r vs) : SeqA K H' r vs := h.imp (fun q => s.seq q) (fun q => Same.sqT s q)
/-- a piece, as plain data -/
structure PM where
  name : Str
  part : Str
  rows : List (List V)
  al : Int
  scope : Str
  keep : Bool
def RowOf (ts : List Str) (part : Str) (xs : List V) : Prop := if part = "code" then CRow ts xs else DRow ts xs
theorem RowOf.rwy {ts : List Str} {part : Str} {xs : List V} (h : RowOf ts part xs) : Rwy ts xs := by
  unfold RowOf at h
  split at h
  · exact .inl h
  · exact .inr h
structure PM.Ok (ts : List Str) (M : PM) : Prop where
  nm : Nm M.name
  pt : M.part = "code" ∨ M.part = "data"
  rw : ∀ xs ∈ M.rows, RowOf ts M.part xs
  ln : M.rows.length ≤ 16
  cl : M.part = "code" → ∃ rs xs, M.rows = rs ++ [xs] ∧ inV (hd0 xs) closL = true
  al : M.al ∈ ([1, 2, 4, 8, 16] : List Int)
  sc : M.scope ∈ (["local", "export", "open", "weak"] : List Str)
  op : M.part = "data" → M.scope ≠ "open"
def rowO (part : Str) (o : Option (List V)) : Bool := if part = "code" then codeO o else dataO o
def pflds (M : PM) (q : Addr) : List (Str × V) := putF "_rows" (.ref q) (putF "keep" (.bl M.keep) (putF "scope" (.str M.scope) (putF "alignment" (.int M.al) (putF "part" (.str M.part) (putF "name" (.str M.name) [])))))
theorem lenp {f : Str} {y : V} {fs : List (Str × V)} {n : Nat} (h : fs.length ≤ n) : (putF f y fs).length ≤ n + 1 := Nat.le_trans (length_putF f y fs) (Nat.succ_le_succ h)
theorem pf_name {M : PM} {q : Addr} : (pflds M q).lookup ("name" : Str) = some (V.str M.name) := by
  unfold pflds
  rw [lookup_putF, if_neg (by decide +kernel), lookup_putF, if_neg (by decide +kernel), lookup_putF, if_neg (by decide +kernel), lookup_putF, if_neg (by decide +kernel), lookup_putF, if_neg (by decide +kernel), lookup_putF, if_pos rfl]
theorem pf_part {M : PM} {q : Addr} : (pflds M q).lookup ("part" : Str) = some (V.str M.part) := by
  unfold pflds
  rw [lookup_putF, if_neg (by decide +kernel), lookup_putF, if_neg (by decide +kernel), lookup_putF, if_neg (by decide +kernel), lookup_putF, if_neg (by decide +kernel), lookup_putF, if_pos rfl]
theorem pf_al {M : PM} {q : Addr} : (pflds M q).lookup ("alignment" : Str) = some (V.int M.al) := by
  unfold pflds
  rw [lookup_putF, if_neg (by decide +kernel), lookup_putF, if_neg (by decide +kernel), lookup_putF, if_neg (by decide +kernel), lookup_putF, if_pos rfl]
theorem pf_scope {M : PM} {q : Addr} : (pflds M q).lookup ("scope" : Str) = some (V.str M.scope) := by
  unfold pflds
  rw [lookup_putF, if_neg (by decide +kernel), lookup_putF, if_neg (by decide +kernel), lookup_putF, if_pos rfl]
theorem pf_keep {M : PM} {q : Addr} : (pflds M q).lookup ("keep" : Str) = some (V.bl M.keep) := by
  unfold pflds
  rw [lookup_putF, if_neg (by decide +kernel), lookup_putF, if_pos rfl]
theorem pf_rows {M : PM} {q : Addr} : (pflds M q).lookup ("_rows" : Str) = some (V.ref q) := by
  unfold pflds
  rw [lookup_putF, if_pos rfl]
theorem pf_no {M : PM} {q : Addr} {m : Str} (h : m ∉ (["_rows", "keep", "scope", "alignment", "part", "name"] : List Str)) : (pflds M q).lookup m = none := by
  simp only [List.mem_cons, List.not_mem_nil, or_false, not_or] at h
  obtain ⟨h1, h2, h3, h4, h5, h6⟩ := h
  unfold pflds
  rw [lookup_putF, if_neg h1, lookup_putF, if_neg h2, lookup_putF, if_neg h3, lookup_putF, if_neg h4, lookup_putF, if_neg h5, lookup_putF, if_neg h6]
  rfl
/-- a piece stands at p, its rows in the list at q -/
def PieceQ (C : Addr) (H : Hp) (p q : Addr) (M : PM) : Prop := ∃ (dx : Addr) (as : List Addr), H p = some (.ins C dx (pflds M q)) ∧ H q = some (.lst (as.map V.ref)) ∧ RowsIn H as M.rows
theorem PieceQ.same {C : Addr} {H H' : Hp} {p q : Addr} {M : PM} (s : Same H H') (h : PieceQ C H p q M) : PieceQ C H' p q M := by
  obtain ⟨dx, as, h1, h2, h3⟩ := h
  exact ⟨dx, as, s _ _ h1, s _ _ h2, h3.tups (Same.tups s)⟩
theorem PieceQ.stp {C : Addr} {H H' : Hp} {b l p q : Addr} {M : PM} (s : Stp b H H') (B : Bag H b l) (n : q ≠ b) (h : PieceQ C H p q M) : PieceQ C H' p q M := by
  obtain ⟨dx, as, h1, h2, h3⟩ := h
  obtain ⟨_, _, _, _, _, g1, _⟩ := id B
  exact ⟨dx, as, s _ _ (ne_of h1 g1 (by intro z; cases z)) h1, s _ _ n h2, h3.tups (s.tups B)⟩
/-- a list of one's own that is no rows' list is written -/
theorem PieceQ.put {C : Addr} {H : Hp} {p q g : Addr} {o : HO} {M : PM} {xs : List V} (e : H g = some (.lst xs)) (n : q ≠ g) (h : PieceQ C H p q M) : PieceQ C (upd H g o) p q M := by
  obtain ⟨dx, as, h1, h2, h3⟩ := h
  refine ⟨dx, as, ?_, by rw [upd_ne n]; exact h2, h3.tups (TupS.put (fun _ _ x => x) fun ys z => by rw [e] at z; cases z)⟩
  rw [upd_ne (ne_of h1 e (by intro z; cases z))]
  exact h1
/-! rows as data -/
def toD : V → PyData
  | .bl b => .bool b
  | .int i => .int i
  | .str z => .str z
  | _ => .none
def datR (rs : List (List V)) : PyData := .list (rs.map fun xs => .tuple (xs.map toD))
def okF (x : V) : Prop := flatV x = true ∧ ∀ z, x = .str z → StrK z
theorem dp_flat {K : PySem.W.Frag} {H : Hp} {x : V} (h : flatV x = true) : Dp K H x (toD x) := by
  cases x with
  | non => exact .non
  | bl b => exact .bl b
  | int i => exact .int i
  | str z => exact .str z
  | _ => cases h
theorem lay_flat {x : V} (h : okF x) : (toD x).canLay0 = true ∧ (toD x).depth = 0 := by
  cases x with
  | non => exact ⟨by simp [toD, PyData.canLay0], by simp [toD, PyData.depth]⟩
  | bl b => exact ⟨by simp [toD, PyData.canLay0], by simp [toD, PyData.depth]⟩
  | int i => exact ⟨by simp [toD, PyData.canLay0], by simp [toD, PyData.depth]⟩
  | str z =>
    refine ⟨?_, by simp [toD, PyData.depth]⟩
    have q := (h.2 z rfl).2
    simp only [toD, PyData.canLay0, PyData.strOk]
    simp
    exact fun i hi => q _ (by simp)
  | _ => cases h.1
theorem dpall_flat {K : PySem.W.Frag} {H : Hp} : ∀ {xs : List V}, (∀ x ∈ xs, flatV x = true) → DpAll K H xs (xs.map toD)
  | [], _ => .nil
  | x :: xs, h => .cons (dp_flat (h x (List.mem_cons_self ..))) (dpall_flat fun y m => h y (List.mem_cons_of_mem _ m))
theorem layall_flat : ∀ {xs : List V}, (∀ x ∈ xs, okF x) → PyData.canLayAll0 (xs.map toD) = true ∧ PyData.depthAll (xs.map toD) = 0
  | [], _ => ⟨by simp [PyData.canLayAll0], by simp [PyData.depthAll]⟩
  | x :: xs, h => by
    obtain ⟨a, b⟩ := lay_flat (h x (List.mem_cons_self ..))
    obtain ⟨c, d⟩ := layall_flat (xs := xs) fun y m => h y (List.mem_cons_of_mem _ m)
    exact ⟨by simp [PyData.canLayAll0, a, c], by simp [PyData.depthAll, b, d]⟩
theorem dp_rows {K : PySem.W.Frag} {H : Hp} {q : Addr} {as : List Addr} {rs : List (List V)} (e : SqL K H q (as.map V.ref)) (h : RowsIn H as rs) (hf : ∀ xs ∈ rs, ∀ x ∈ xs, flatV x = true) : Dp K H (.ref q) (datR rs) := by
  refine .lst e ?_
  clear e
  induction h with
  | nil => exact .nil
  | @cons a xs as rs r _ ih => exact .cons (.tup (SqT.of r) (dpall_flat (hf xs (List.mem_cons_self ..)))) (ih fun ys m => hf ys (List.mem_cons_of_mem _ m))
theorem shaped_rows {rs : List (List V)} (h : ∀ xs ∈ rs, ∀ x ∈ xs, okF x) : SeqAt.shaped (datR rs) = true := by
  have key : PyData.canLayAll0 (rs.map fun xs => PyData.tuple (xs.map toD)) = true ∧ PyData.depthAll (rs.map fun xs => PyData.tuple (xs.map toD)) ≤ 1 := by
    induction rs with
    | nil => exact ⟨by simp [PyData.canLayAll0], by simp [PyData.depthAll]⟩
    | cons xs rs ih =>
      obtain ⟨a, b⟩ := layall_flat (h xs (List.mem_cons_self ..))
      obtain ⟨c, d⟩ := ih fun ys m => h ys (List.mem_cons_of_mem _ m)
      refine ⟨by simp [PyData.canLayAll0, PyData.canLay0, a, c], ?_⟩
      simp only [List.map_cons, PyData.depthAll, PyData.depth, b]
      omega
  unfold SeqAt.shaped datR
  simp only [PyData.canLay0, PyData.depth, key.1, Bool.true_and]
  exact decide_eq_true (by have := key.2; omega)
theorem RowOf.okF {ts : List Str} {part : Str} {xs : List V} (hz : ∀ z ∈ ts, Nm z) (h : RowOf ts part xs) : ∀ x ∈ xs, okF x := by
  have q := (h.rwy.ok (K := default) (H := fun _ => none) (b := (0 : Nat)) hz).1 0
  exact q
/-- == of two pieces -/
def pmEq (M N : PM) : Bool := decide (M.name = N.name) && (decide (M.part = N.part) && (decide (M.al = N.al) && (decide (M.scope = N.scope) && (decide (M.keep = N.keep) && PyData.eqv (datR M.rows) (datR N.rows)))))
theorem pmEq_refl {ts : List Str} {M : PM} (hz : ∀ z ∈ ts, Nm z) (h : M.Ok ts) : pmEq M M = true := by
  have q : PyData.eqv (datR M.rows) (datR M.rows) = true := SeqAt.eqv_refl _ (SeqAt.canLay_of_shaped (shaped_rows fun xs m => (h.rw xs m).okF hz))
  simp [pmEq, q]

section
variable {P : Program} {w : World} {K : PySem.W.Frag} {mg : Str → Option Value} {base : Heap} {Z : Fs}
/-! ### is_row_of, is_part, is_alignment, is_scope_of, ends_closing -/
def sp_is_row_of (K : PySem.W.Frag) : Sp := fun vs H Q _ => ∃ (part : Str) (v : V) (b : Addr) (n : Nat) (o : Option (List V)), vs = [.str part, v] ∧ Tp K H b n v o ∧ ∀ H' : Hp, Same H H' → Q (.bl (rowO part o)) H'
theorem ok_is_row_of (T : Txt K w mg Z) : FnOk P w K mg base CX0 5 Z.a_is_row_of Z.d_is_row_of ["part", "value"] (sp_is_row_of K) := by
  have G_is_code_row : FnOk P w K mg base CX0 4 Z.a_is_code_row Z.d_is_code_row ["value"] (sp_is_code_row K) := ok_is_code_row T
  have G_is_data_row : FnOk P w K mg base CX0 4 Z.a_is_data_row Z.d_is_data_row ["value"] (sp_is_data_row K) := ok_is_data_row T
  refine T.F_is_row_of.ok sc_is_row_of (fun vs H Q E h => ?_) (fun cdv A outer s H vs Q E hr h => ?_)
  · obtain ⟨part, v, b, n, o, rfl, _⟩ := h
    rfl
  · obtain ⟨part, v, b, n, o, rfl, tp, k⟩ := h
    refine ⟨_, (pss_cons (ps_if (pt_cmpR op_eq (pv 0) pe_str (nomark _)) (pss_one (ps_ret (pe_call G_is_code_row (hr.mono (by omega)) (by rfl) T.m_is_code_row T.F_is_code_row.kp T.b_is_code_row .nil pass0 (pa_cons (pv 1) pa_nil)))) pss_nil)
      (pss_one (ps_ret (pe_call G_is_data_row (hr.mono (by omega)) (by rfl) T.m_is_data_row T.F_is_data_row.kp T.b_is_data_row .nil pass0 (pa_cons (pv 1) pa_nil))))), ?_⟩
    refine ⟨.str part, rfl, rfl, _, rfl, ?_⟩
    by_cases c : part = "code"
    · refine iteY (by rw [c]) ?_
      refine ⟨v, rfl, v, b, n, o, rfl, tp, fun H' s => ?_⟩
      have e : rowO part o = codeO o := if_pos c
      rw [← e]
      exact k _ s
    · refine iteN (fun z => c (V.str.inj z)) ?_
      refine ⟨v, rfl, v, b, n, o, rfl, tp, fun H' s => ?_⟩
      have e : rowO part o = dataO o := if_neg c
      rw [← e]
      exact k _ s
def partsL : List V := [.str "code", .str "data"]
def alignsL : List V := [.int 1, .int 2, .int 4, .int 8, .int 16]
def scopesL : List V := [.str "local", .str "export", .str "open", .str "weak"]
def strongL : List V := [.str "export", .str "open"]
def partV (v : V) : Bool := isS v && inV v partsL
def alV (v : V) : Bool := numV v 1 16 && inV v alignsL
def scopeV (part : Str) (v : V) : Bool := isS v && (inV v scopesL && (decide (part = "code") || !decide (v = .str "open")))
def sp_is_part (K : PySem.W.Frag) : Sp := fun vs H Q _ => ∃ (v : V) (b : Addr) (n : Nat), vs = [v] ∧ Okv K H b n v ∧ ∀ H' : Hp, Same H H' → Q (.bl (partV v)) H'
theorem flat_S {v : V} (h : isS v = true) : flatV v = true := by
  obtain ⟨z, rfl⟩ := isS_of h
  rfl
theorem ok_is_part (T : Txt K w mg Z) : FnOk P w K mg base CX0 1 Z.a_is_part Z.d_is_part ["value"] (sp_is_part K) := by
  refine T.F_is_part.ok sc_is_part (fun vs H Q E h => ?_) (fun cdv A outer s H vs Q E hr h => ?_)
  · obtain ⟨v, b, n, rfl, _⟩ := h
    rfl
  · obtain ⟨v, b, n, rfl, hv, k⟩ := h
    refine ⟨_, (pss_one (ps_ret (pe_and (pe_callB call_isi (by rfl) T.n_isinstance boot_isinstance (pa_cons (pv 0) (pa_cons (pe_bltn (v := .ty "str") (by rfl) T.n_str boot_str rfl) pa_nil))) (pe_one (pe_cmpR (op_in_seq : OpR _ _ (rIn K false)) (pv 0) (pe_glob (v := .ref Z.c_PARTS) (by rfl) T.g_PARTS rfl) (by rfl)))))), ?_⟩
    obtain ⟨t, ty, k1, k2, k3⟩ := hv.ty
    refine ⟨v, rfl, v, .ty "str", t, _, isS v, rfl, .ty _, ty, k1, isS v, rfl, ?_⟩
    cases e : isS v with
    | true =>
      refine iteT ⟨v, rfl, _, partsL, rfl, .inr (T.v_PARTS H), flat_S e, rfl, ?_⟩
      have q := k H (Same.refl _)
      unfold partV at q
      rw [e] at q
      exact q
    | false =>
      refine iteF ?_
      have q := k H (Same.refl _)
      unfold partV at q
      rw [e] at q
      exact q
def sp_is_alignment (K : PySem.W.Frag) : Sp := fun vs H Q _ => ∃ (v : V) (b : Addr) (n : Nat), vs = [v] ∧ Okv K H b n v ∧ ∀ H' : Hp, Same H H' → Q (.bl (alV v)) H'
theorem flat_num {v : V} {lo hi : Int} (h : numV v lo hi = true) : flatV v = true := by
  cases v with
  | int i => rfl
  | _ => cases h
theorem ok_is_alignment (T : Txt K w mg Z) : FnOk P w K mg base CX0 2 Z.a_is_alignment Z.d_is_alignment ["value"] (sp_is_alignment K) := by
  have G_is_number : FnOk P w K mg base CX0 1 Z.a_is_number Z.d_is_number ["value", "least", "most"] (sp_is_number K) := ok_is_number T
  refine T.F_is_alignment.ok sc_is_alignment (fun vs H Q E h => ?_) (fun cdv A outer s H vs Q E hr h => ?_)
  · obtain ⟨v, b, n, rfl, _⟩ := h
    rfl
  · obtain ⟨v, b, n, rfl, hv, k⟩ := h
    refine ⟨_, (pss_one (ps_ret (pe_and (pe_call G_is_number (hr.mono (by omega)) (by rfl) T.m_is_number T.F_is_number.kp T.b_is_number .nil pass0 (pa_cons (pv 0) (pa_cons pe_int (pa_cons pe_int pa_nil)))) (pe_one (pe_cmpR (op_in_seq : OpR _ _ (rIn K false)) (pv 0) (pe_glob (v := .ref Z.c_ALIGNMENTS) (by rfl) T.g_ALIGNMENTS rfl) (by rfl)))))), ?_⟩
    refine ⟨v, rfl, v, 1, 16, b, n, rfl, hv, fun H1 s1 => ⟨_, rfl, ?_⟩⟩
    have q := k H1 s1
    unfold alV at q
    cases e : numV v 1 16 with
    | true =>
      rw [e] at q
      exact iteT ⟨v, rfl, _, alignsL, rfl, .inr (T.v_ALIGNMENTS H1), flat_num e, rfl, q⟩
    | false =>
      rw [e] at q
      exact iteF q
def sp_is_scope_of (K : PySem.W.Frag) : Sp := fun vs H Q _ => ∃ (part : Str) (v : V) (b : Addr) (n : Nat), vs = [.str part, v] ∧ Okv K H b n v ∧ ∀ H' : Hp, Same H H' → Q (.bl (scopeV part v)) H'
theorem ok_is_scope_of (T : Txt K w mg Z) : FnOk P w K mg base CX0 1 Z.a_is_scope_of Z.d_is_scope_of ["part", "value"] (sp_is_scope_of K) := by
  refine T.F_is_scope_of.ok sc_is_scope_of (fun vs H Q E h => ?_) (fun cdv A outer s H vs Q E hr h => ?_)
  · obtain ⟨part, v, b, n, rfl, _⟩ := h
    rfl
  · obtain ⟨part, v, b, n, rfl, hv, k⟩ := h
    refine ⟨_, (pss_cons (ps_if (PW.pt (pw_or (pt_not (pt_val (pe_callB call_isi (by rfl) T.n_isinstance boot_isinstance (pa_cons (pv 1) (pa_cons (pe_bltn (v := .ty "str") (by rfl) T.n_str boot_str rfl) pa_nil))))) (pw_or1 (pt_cmpR op_notIn_seq (pv 1) (pe_glob (v := .ref Z.c_SCOPES) (by rfl) T.g_SCOPES rfl) (by rfl))))) (pss_one (ps_ret pe_bl)) pss_nil)
      (pss_one (ps_ret (pe_or (pe_cmpR op_eq (pv 0) pe_str (nomark _)) (pe_one (pe_cmpR op_ne (pv 1) pe_str (nomark _))))))), ?_⟩
    obtain ⟨t, ty, k1, k2, k3⟩ := hv.ty
    have q := k H (Same.refl _)
    unfold scopeV at q
    refine ⟨v, rfl, v, .ty "str", t, _, isS v, rfl, .ty _, ty, k1, isS v, rfl, ?_⟩
    cases e : isS v with
    | false =>
      rw [e] at q
      exact iteT q
    | true =>
      rw [e] at q
      obtain ⟨z, rfl⟩ := isS_of e
      refine iteF ⟨.str z, rfl, _, scopesL, rfl, .inr (T.v_SCOPES H), rfl, rfl, _, rfl, ?_⟩
      show if (!inV (.str z) scopesL) = true then _ else _
      cases e2 : inV (.str z) scopesL with
      | false =>
        rw [e2] at q
        exact iteT q
      | true =>
        rw [e2] at q
        refine iteF ⟨.str part, rfl, rfl, _, rfl, ?_⟩
        by_cases c : part = "code"
        · rw [decide_eq_true c] at q
          refine iteY (by rw [c]) q
        · rw [decide_eq_false c] at q
          exact iteN (fun z => c (V.str.inj z)) ⟨.str z, rfl, rfl, q⟩
def sp_ends_closing (K : PySem.W.Frag) : Sp := fun vs H Q _ => ∃ (part : Str) (r : Addr) (as : List Addr) (rs : List (List V)) (ts : List Str), vs = [.str part, .ref r] ∧ SeqA K H r (as.map V.ref) ∧ RowsIn H as rs ∧ (∀ z ∈ ts, Nm z) ∧ (∀ xs ∈ rs, Rwy ts xs) ∧ rs.length ≤ 100000 ∧
  ∀ H' : Hp, Same H H' → Q (.bl (decide (part = "data") || (decide (0 < rs.length) && inV (hd0 (rs.getLast?.getD [])) closL))) H'
theorem RowsIn.last {H : Hp} {as : List Addr} {rs : List (List V)} (h : RowsIn H as rs) (h0 : 0 < rs.length) : ∃ a, atI (as.map V.ref) (-1) = some (.ref a) ∧ H a = some (.tup (rs.getLast?.getD [])) ∧ rs.getLast?.getD [] ∈ rs := by
  induction h with
  | nil => cases h0
  | @cons a xs as rs r t ih =>
    cases t with
    | nil => exact ⟨a, rfl, r, List.mem_singleton.mpr rfl⟩
    | @cons a' xs' as' rs' r' t' =>
      obtain ⟨c, h1, h2, h3⟩ := ih (Nat.succ_pos _)
      refine ⟨c, ?_, by simpa [List.getLast?_cons_cons] using h2, List.mem_cons_of_mem _ (by simpa [List.getLast?_cons_cons] using h3)⟩
      have e : ∀ (l : List V) (x : V), l ≠ [] → atI (x :: l) (-1) = atI l (-1) := fun l x hl => by
        rcases List.eq_nil_or_concat l with rfl | ⟨ys, y, rfl⟩
        · exact absurd rfl hl
        · rw [List.concat_eq_append, ← List.cons_append, atI_last, atI_last]
      rw [List.map_cons, e _ _ (by simp)]
      exact h1
theorem ok_ends_closing (T : Txt K w mg Z) : FnOk P w K mg base CX0 6 Z.a_ends_closing Z.d_ends_closing ["part", "rows"] (sp_ends_closing K) := by
  have G_is_closing : FnOk P w K mg base CX0 5 Z.a_is_closing Z.d_is_closing ["row"] (sp_is_closing K) := ok_is_closing T
  refine T.F_ends_closing.ok sc_ends_closing (fun vs H Q E h => ?_) (fun cdv A outer s H vs Q E hr h => ?_)
  · obtain ⟨part, r, as, rs, ts, rfl, _⟩ := h
    rfl
  · obtain ⟨part, r, as, rs, ts, rfl, hS, hR, hz, hw, hl, k⟩ := h
    refine ⟨_, (pss_one (ps_ret (pe_or (pe_cmpR op_eq (pv 0) pe_str (nomark _)) (pe_one (pe_and (pe_cmpR op_gt (pe_callB call_len (by rfl) T.n_len boot_len (pa_cons (pv 1) pa_nil)) pe_int (nomark _)) (pe_one (pe_call G_is_closing (hr.mono (by omega)) (by rfl) T.m_is_closing T.F_is_closing.kp T.b_is_closing .nil pass0 (pa_cons (pe_ix ix_seq (pv 1) (pe_un un_neg pe_int) (fun _ _ => rfl)) pa_nil)))))))), ?_⟩
    refine ⟨.str part, rfl, rfl, _, rfl, ?_⟩
    by_cases c : part = "data"
    · have q := k H (Same.refl _)
      rw [decide_eq_true c] at q
      exact iteY (by rw [c]) q
    · refine iteN (fun z => c (V.str.inj z)) ?_
      have lr : (as.map V.ref).length = rs.length := by rw [List.length_map]; exact hR.len
      refine ⟨.ref r, rfl, .ref r, rs.length, rfl, hS.imp (fun q => ⟨_, q, lr.symm⟩) (fun q => ⟨_, q, lr.symm⟩), _, _, rfl, rfl, _, rfl, ?_⟩
      by_cases h0 : 0 < rs.length
      · refine iteY (show (rs.length : Int) > 0 by omega) ?_
        obtain ⟨a, ha, ea, hm⟩ := hR.last h0
        refine ⟨.ref r, rfl, 1, rfl, ?_⟩
        have go : ∀ H', Same H H' → Q (.bl (inV (hd0 (rs.getLast?.getD [])) closL)) H' := fun H' s' => by
          have q := k H' s'
          rw [decide_eq_false c, decide_eq_true h0] at q
          exact q
        have call : sp_is_closing K [.ref a] H Q E := ⟨a, _, ts, rfl, SqT.of ea, hz, hw _ hm, go⟩
        rcases hS with hS | hS
        · exact .inl ⟨r, _, -1, .ref a, rfl, rfl, hS, ha, call⟩
        · exact .inr (.inl ⟨r, _, -1, .ref a, rfl, rfl, hS, ha, call⟩)
      · refine iteN (show ¬ (rs.length : Int) > 0 by omega) ?_
        have q := k H (Same.refl _)
        rw [decide_eq_false c, decide_eq_false h0] at q
        exact q
/-! ### _check_rows: all is right -/
def sp_check_rows (K : PySem.W.Frag) : Sp := fun vs H Q _ => ∃ (part : Str) (r : Addr) (as : List Addr) (rs : List (List V)) (ts : List Str), vs = [.str part, .ref r] ∧ SeqA K H r (as.map V.ref) ∧ RowsIn H as rs ∧ (∀ z ∈ ts, Nm z) ∧ (part = "code" ∨ part = "data") ∧ (∀ xs ∈ rs, RowOf ts part xs) ∧ rs.length ≤ 16 ∧ ∀ H' : Hp, Same H H' → Q .non H'
theorem RowOf.so {ts : List Str} {part : Str} {xs : List V} (hz : ∀ z ∈ ts, Nm z) (hp : part = "code" ∨ part = "data") (h : RowOf ts part xs) : rowO part (some xs) = true := by
  unfold RowOf at h
  unfold rowO
  split
  · rename_i c
    rw [if_pos c] at h
    exact (h.ok (K := default) (H := fun _ => none) (b := (0 : Nat)) hz).2.2.2
  · rename_i c
    rw [if_neg c] at h
    exact (h.ok (K := default) (H := fun _ => none) (b := (0 : Nat)) hz).2.2.2.1
theorem ok_check_rows (T : Txt K w mg Z) : FnOk P w K mg base CX0 6 Z.a_check_rows Z.d_check_rows ["part", "rows"] (sp_check_rows K) := by
  have G_is_row_of : FnOk P w K mg base CX0 5 Z.a_is_row_of Z.d_is_row_of ["part", "value"] (sp_is_row_of K) := ok_is_row_of T
  refine T.F_check_rows.ok sc_check_rows (fun vs H Q E h => ?_) (fun cdv A outer s H vs Q E hr h => ?_)
  · obtain ⟨part, r, as, rs, ts, rfl, _⟩ := h
    rfl
  · obtain ⟨part, r, as, rs, ts, rfl, hS, hR, hz, hp, hw, hl, k⟩ := h
    refine ⟨_, (pss_cons (ps_if (pt_not (pt_val (pe_callB call_isiT (by rfl) T.n_isinstance boot_isinstance (pa_cons (pv 1) (pa_cons (pe_tup (pa_cons (pe_bltn (v := .ty "list") (by rfl) T.n_list boot_list rfl) (pa_cons (pe_bltn (v := .ty "tuple") (by rfl) T.n_tuple boot_tuple rfl) pa_nil))) pa_nil))))) (pss_one ps_never) pss_nil)
      (pss_cons (ps_if (pt_cmpR op_gt (pe_callB call_len (by rfl) T.n_len boot_len (pa_cons (pv 1) pa_nil)) (pe_glob (v := .int 16) (by rfl) (Classical.choose_spec T.g_MOST_ROWS) ⟨_, rfl⟩) (nomark _)) (pss_one ps_never) pss_nil)
      (pss_one (ps_for PassesOwn.never rfl (pi_enumA (by rfl) T.n_enumerate (pa_cons (pv 1) pa_nil)) (pg_tup (by rfl) (pgs_cons (pg_name (i := 2) sc_check_rows.nd rfl (Or.inl rfl)) (pgs_cons (pg_name (i := 3) sc_check_rows.nd rfl (Or.inl rfl)) pgs_nil))) (pss_one (ps_if (pt_not (pt_val (pe_call G_is_row_of (hr.mono (by omega)) (by rfl) T.m_is_row_of T.F_is_row_of.kp T.b_is_row_of .nil pass0 (pa_cons (pv 0) (pa_cons (pv 3) pa_nil))))) (pss_one ps_never) pss_nil)))))), ?_⟩
    refine ⟨.ref r, rfl, (by show 2 ≤ sizeLine; decide), fun p hp' => ?_⟩
    have s1 : Same H (upd H p (.tup [.ty "list", .ty "tuple"])) := Same.new hp'
    have ep : (upd H p (.tup [.ty "list", .ty "tuple"])) p = some (.tup [.ty "list", .ty "tuple"]) := upd_same
    generalize upd H p (.tup [.ty "list", .ty "tuple"]) = H1 at s1 ep ⊢
    have hS1 := hS.same s1
    obtain ⟨t, ty, kt⟩ : ∃ t, TyX K H1 (.ref r) t ∧ PySem.W.kitAny K t [.type "list", .type "tuple"] = some true := by
      rcases hS1 with q | q
      · exact ⟨_, tyx_l q, kitLl⟩
      · exact ⟨_, tyx_t q, kitLt⟩
    refine ⟨.ref r, p, _, t, _, true, rfl, ep, .cons (.ty _) (.cons (.ty _) .nil), ty, kt, true, rfl, iteF ?_⟩
    have lr : (as.map V.ref).length = rs.length := by rw [List.length_map]; exact hR.len
    refine ⟨.ref r, rfl, .ref r, rs.length, rfl, hS1.imp (fun q => ⟨_, q, lr.symm⟩) (fun q => ⟨_, q, lr.symm⟩), _, _, rfl, rfl, _, rfl, iteN (show ¬ (rs.length : Int) > 16 by omega) ?_⟩
    refine ⟨.ref r, rfl, r, as.map V.ref, rfl, ?_⟩
    rcases hS1 with hS1 | hS1
    · refine .inl ⟨hS1, for_it walk_enum (fun _ σ G => ∃ y2 y3, σ = [some (.str part), some (.ref r), y2, y3] ∧ Same H1 G) ⟨_, _, rfl, Same.refl _⟩ (fun _ _ G _ ⟨_, _, _, sG⟩ => sG.seq hS1) ?_ ?_⟩
      · rintro i x σ G G' hi ⟨y2, y3, rfl, sG⟩ ⟨Tq, u, z, rfl, hT, rfl, hu, hz'⟩
        cases hu
        obtain ⟨a, xs, rfl, _, hx, ea⟩ := hR.get hz'
        have hx' := List.mem_of_getElem? hx
        have sH := (s1.trans sG).trans (Same.new (o := .tup [.int (i : Nat), .ref a]) hT)
        refine ⟨Tq, [.int (i : Nat), .ref a], rfl, SqT.of upd_same, rfl, .int (i : Nat), [.ref a], rfl, .ref a, [], rfl, rfl, ?_⟩
        refine ⟨.str part, rfl, .ref a, rfl, part, .ref a, a, 0, some xs, rfl, (hw _ hx').rwy.tp hz (SqT.of (sH _ _ ea)), fun G2 s2 => ⟨_, rfl, ?_⟩⟩
        rw [(hw _ hx').so hz hp]
        exact iteF ⟨_, _, rfl, (sG.trans (Same.new hT)).trans s2⟩
      · rintro σ G ⟨y2, y3, rfl, sG⟩
        exact k _ (s1.trans sG)
    · refine .inr ⟨hS1, for_it walk_enumT (fun _ σ G => ∃ y2 y3, σ = [some (.str part), some (.ref r), y2, y3] ∧ Same H1 G) ⟨_, _, rfl, Same.refl _⟩ (fun _ _ G _ ⟨_, _, _, sG⟩ => Same.sqT sG hS1) ?_ ?_⟩
      · rintro i x σ G G' hi ⟨y2, y3, rfl, sG⟩ ⟨Tq, u, z, rfl, hT, rfl, hu, hz'⟩
        cases hu
        obtain ⟨a, xs, rfl, _, hx, ea⟩ := hR.get hz'
        have hx' := List.mem_of_getElem? hx
        have sH := (s1.trans sG).trans (Same.new (o := .tup [.int (i : Nat), .ref a]) hT)
        refine ⟨Tq, [.int (i : Nat), .ref a], rfl, SqT.of upd_same, rfl, .int (i : Nat), [.ref a], rfl, .ref a, [], rfl, rfl, ?_⟩
        refine ⟨.str part, rfl, .ref a, rfl, part, .ref a, a, 0, some xs, rfl, (hw _ hx').rwy.tp hz (SqT.of (sH _ _ ea)), fun G2 s2 => ⟨_, rfl, ?_⟩⟩
        rw [(hw _ hx').so hz hp]
        exact iteF ⟨_, _, rfl, (sG.trans (Same.new hT)).trans s2⟩
      · rintro σ G ⟨y2, y3, rfl, sG⟩
        exact k _ (s1.trans sG)
end

section
variable {P : Program} {w : World} {K : PySem.W.Frag} {mg : Str → Option Value} {base : Heap} {Z : Fs}
/-! ### the methods of a piece -/
theorem SeqA.stp {H H' : Hp} {p r : Addr} {vs : List V} (s : Stp p H H') (n : r ≠ p) (h : SeqA K H r vs) : SeqA K H' r vs := h.imp (fun q => s.sqL n q) (fun q => s.sqT n q)
theorem SeqA.ne {H : Hp} {C p r dx : Addr} {vs : List V} {fs : List (Str × V)} (hk : K.lookup p = none) (e : H p = some (.ins C dx fs)) (h : SeqA K H r vs) : r ≠ p := by
  rintro rfl
  rcases h with ((h | ⟨o, h⟩) | ⟨o, its, n, h, _⟩) | ((h | ⟨o, h⟩) | ⟨o, its, n, h, _⟩)
  · rw [e] at h; cases h
  · rw [e] at h; cases h
  · rw [hk] at h; cases h
  · rw [e] at h; cases h
  · rw [e] at h; cases h
  · rw [hk] at h; cases h
def sp_init (K : PySem.W.Frag) (C : Addr) : Sp := fun vs H Q _ => ∃ (p r dx : Addr) (as : List Addr) (ts : List Str) (M : PM), vs = [.ref p, .str M.name, .str M.part, .ref r, .int M.al, .str M.scope, .bl M.keep] ∧ H p = some (.ins C dx []) ∧ (∀ z ∈ ts, Nm z) ∧ M.Ok ts ∧ SeqA K H r (as.map V.ref) ∧ RowsIn H as M.rows ∧ r ≠ p ∧
  ∀ (H' : Hp) (q : Addr), Stp p H H' → PieceQ C H' p q M → H q = none → Q .non H'
theorem alV_of {i : Int} (h : i ∈ ([1, 2, 4, 8, 16] : List Int)) : alV (.int i) = true := by
  simp only [List.mem_cons, List.not_mem_nil, or_false] at h
  rcases h with rfl | rfl | rfl | rfl | rfl <;> decide +kernel
theorem partV_of {z : Str} (h : z = "code" ∨ z = "data") : partV (.str z) = true := by
  rcases h with rfl | rfl <;> decide +kernel
theorem scopeV_of {part z : Str} (h : z ∈ (["local", "export", "open", "weak"] : List Str)) (hp : part = "code" ∨ part = "data") (ho : part = "data" → z ≠ "open") : scopeV part (.str z) = true := by
  unfold scopeV
  have h1 : inV (.str z) scopesL = true := by
    simp only [List.mem_cons, List.not_mem_nil, or_false] at h
    rcases h with rfl | rfl | rfl | rfl <;> decide +kernel
  rw [h1]
  show (decide (part = "code") || !decide (V.str z = V.str "open")) = true
  rcases hp with rfl | rfl
  · rfl
  · rw [decide_eq_false (fun e => ho rfl (V.str.inj e))]
    simp
theorem scK {z : Str} (h : z ∈ (["local", "export", "open", "weak"] : List Str)) : StrK z := by
  simp only [List.mem_cons, List.not_mem_nil, or_false] at h
  rcases h with rfl | rfl | rfl | rfl <;> exact ⟨by decide +kernel, by decide +kernel⟩
theorem ptK {z : Str} (h : z = "code" ∨ z = "data") : StrK z := by
  rcases h with rfl | rfl <;> exact ⟨by decide +kernel, by decide +kernel⟩
theorem PM.Ok.ends {ts : List Str} {M : PM} (h : M.Ok ts) : (decide (M.part = "data") || (decide (0 < M.rows.length) && inV (hd0 (M.rows.getLast?.getD [])) closL)) = true := by
  rcases h.pt with e | e
  · obtain ⟨rs, xs, er, c⟩ := h.cl e
    rw [er]
    simp [c]
  · rw [decide_eq_true e]; rfl
theorem ok_Piece_init (T : Txt K w mg Z) : FnOk P w K mg base CX0 7 Z.a_Piece___init__ Z.d_Piece___init__ ["self", "name", "part", "rows", "alignment", "scope", "keep"] (sp_init K Z.C_Piece) := by
  have G_is_name : FnOk P w K mg base CX0 1 Z.a_is_name Z.d_is_name ["value"] (sp_is_name K) := ok_is_name T
  have G_is_part : FnOk P w K mg base CX0 1 Z.a_is_part Z.d_is_part ["value"] (sp_is_part K) := ok_is_part T
  have G_check_rows : FnOk P w K mg base CX0 6 Z.a_check_rows Z.d_check_rows ["part", "rows"] (sp_check_rows K) := ok_check_rows T
  have G_ends_closing : FnOk P w K mg base CX0 6 Z.a_ends_closing Z.d_ends_closing ["part", "rows"] (sp_ends_closing K) := ok_ends_closing T
  have G_is_alignment : FnOk P w K mg base CX0 2 Z.a_is_alignment Z.d_is_alignment ["value"] (sp_is_alignment K) := ok_is_alignment T
  have G_is_scope_of : FnOk P w K mg base CX0 1 Z.a_is_scope_of Z.d_is_scope_of ["part", "value"] (sp_is_scope_of K) := ok_is_scope_of T
  refine T.F_Piece___init__.ok sc_Piece___init__ (fun vs H Q E h => ?_) (fun cdv A outer s H vs Q E hr h => ?_)
  · obtain ⟨p, r, dx, as, ts, M, rfl, _⟩ := h
    rfl
  · obtain ⟨p, r, dx, as, ts, M, rfl, hp, hz, ok, hS, hR, hrp, k⟩ := h
    refine ⟨_, PSs.nox (pss_cons (ps_if (pt_not (pt_val (pe_call G_is_name (hr.mono (by omega)) (by rfl) T.m_is_name T.F_is_name.kp T.b_is_name .nil pass0 (pa_cons (pv 1) pa_nil)))) (pss_one ps_never) pss_nil)
      (pss_cons (ps_if (pt_not (pt_val (pe_call G_is_part (hr.mono (by omega)) (by rfl) T.m_is_part T.F_is_part.kp T.b_is_part .nil pass0 (pa_cons (pv 2) pa_nil)))) (pss_one ps_never) pss_nil)
      (pss_cons (ps_expr (pe_call G_check_rows (hr.mono (by omega)) (by rfl) T.m_check_rows T.F_check_rows.kp T.b_check_rows .nil pass0 (pa_cons (pv 2) (pa_cons (pv 3) pa_nil))))
      (pss_cons (ps_if (pt_not (pt_val (pe_call G_ends_closing (hr.mono (by omega)) (by rfl) T.m_ends_closing T.F_ends_closing.kp T.b_ends_closing .nil pass0 (pa_cons (pv 2) (pa_cons (pv 3) pa_nil))))) (pss_one ps_never) pss_nil)
      (pss_cons (ps_if (pt_not (pt_val (pe_call G_is_alignment (hr.mono (by omega)) (by rfl) T.m_is_alignment T.F_is_alignment.kp T.b_is_alignment .nil pass0 (pa_cons (pv 4) pa_nil)))) (pss_one ps_never) pss_nil)
      (pss_cons (ps_if (pt_not (pt_val (pe_call G_is_scope_of (hr.mono (by omega)) (by rfl) T.m_is_scope_of T.F_is_scope_of.kp T.b_is_scope_of .nil pass0 (pa_cons (pv 2) (pa_cons (pv 5) pa_nil))))) (pss_one ps_never) pss_nil)
      (pss_cons (ps_fld (pv 0) (pv 1) rfl)
      (pss_cons (ps_fld (pv 0) (pv 2) rfl)
      (pss_cons (ps_fld (pv 0) (pv 4) rfl)
      (pss_cons (ps_fld (pv 0) (pv 5) rfl)
      (pss_cons (ps_fld (pv 0) (pv 6) rfl)
      (pss_one (ps_fld (pv 0) (pe_callTy call_list_of (by rfl) T.n_list boot_list (pa_cons (pv 3) pa_nil)) rfl))))))))))))), ?_⟩
    refine ⟨.str M.name, rfl, .str M.name, p, 0, rfl, Okv.str ok.nm.strK, fun H1 s1 => ⟨_, rfl, ?_⟩⟩
    rw [nmV_of ok.nm]
    refine iteF ⟨.str M.part, rfl, .str M.part, p, 0, rfl, Okv.str (ptK ok.pt), fun H2 s2 => ⟨_, rfl, ?_⟩⟩
    rw [partV_of ok.pt]
    have s02 := s1.trans s2
    refine iteF ⟨.str M.part, rfl, .ref r, rfl, M.part, r, as, M.rows, ts, rfl, hS.same s02, hR.tups (Same.tups s02), hz, ok.pt, ok.rw, ok.ln, fun H3 s3 => ?_⟩
    have s03 := s02.trans s3
    refine ⟨.str M.part, rfl, .ref r, rfl, M.part, r, as, M.rows, ts, rfl, hS.same s03, hR.tups (Same.tups s03), hz, fun xs m => (ok.rw xs m).rwy, Nat.le_trans ok.ln (by decide), fun H4 s4 => ⟨_, rfl, ?_⟩⟩
    rw [ok.ends]
    have s04 := s03.trans s4
    refine iteF ⟨.int M.al, rfl, .int M.al, p, 0, rfl, Okv.int, fun H5 s5 => ⟨_, rfl, ?_⟩⟩
    rw [alV_of ok.al]
    refine iteF ⟨.str M.part, rfl, .str M.scope, rfl, M.part, .str M.scope, p, 0, rfl, Okv.str (scK ok.sc), fun H6 s6 => ⟨_, rfl, ?_⟩⟩
    rw [scopeV_of ok.sc ok.pt ok.op]
    have s06 := (s04.trans s5).trans s6
    have e0 := s06 _ _ hp
    refine iteF ⟨.str M.name, rfl, .ref p, rfl, p, _, dx, [], rfl, e0, T.cl_Piece, T.n_Piece_name, by show 0 < 1000; decide, ?_⟩
    refine ⟨.str M.part, rfl, .ref p, rfl, p, _, dx, _, rfl, upd_same, T.cl_Piece, T.n_Piece_part, Nat.lt_of_le_of_lt (lenp (n := 0) (Nat.zero_le _)) (by decide), ?_⟩
    refine ⟨.int M.al, rfl, .ref p, rfl, p, _, dx, _, rfl, upd_same, T.cl_Piece, T.n_Piece_alignment, Nat.lt_of_le_of_lt (lenp (lenp (n := 0) (Nat.zero_le _))) (by decide), ?_⟩
    refine ⟨.str M.scope, rfl, .ref p, rfl, p, _, dx, _, rfl, upd_same, T.cl_Piece, T.n_Piece_scope, Nat.lt_of_le_of_lt (lenp (lenp (lenp (n := 0) (Nat.zero_le _)))) (by decide), ?_⟩
    refine ⟨.bl M.keep, rfl, .ref p, rfl, p, _, dx, _, rfl, upd_same, T.cl_Piece, T.n_Piece_keep, Nat.lt_of_le_of_lt (lenp (lenp (lenp (lenp (n := 0) (Nat.zero_le _))))) (by decide), ?_⟩
    have sp : ∀ {G : Hp} {o : HO}, Stp p H G → Stp p H (upd G p o) := fun s => s.trans Stp.put
    have s7 := sp (sp (sp (sp (sp (o := .ins Z.C_Piece dx (putF "name" (.str M.name) [])) (fun a o _ e => s06 a o e)) (o := .ins Z.C_Piece dx (putF "part" (.str M.part) (putF "name" (.str M.name) [])))) (o := .ins Z.C_Piece dx (putF "alignment" (.int M.al) (putF "part" (.str M.part) (putF "name" (.str M.name) []))))) (o := .ins Z.C_Piece dx (putF "scope" (.str M.scope) (putF "alignment" (.int M.al) (putF "part" (.str M.part) (putF "name" (.str M.name) [])))))) (o := .ins Z.C_Piece dx (putF "keep" (.bl M.keep) (putF "scope" (.str M.scope) (putF "alignment" (.int M.al) (putF "part" (.str M.part) (putF "name" (.str M.name) []))))))
    refine ⟨.ref r, rfl, r, as.map V.ref, rfl, hS.stp s7 hrp, fun q hq => ?_⟩
    have nq : q ≠ p := fun e => by rw [e, upd_same] at hq; cases hq
    refine ⟨.ref p, rfl, p, _, dx, _, rfl, by rw [upd_ne nq.symm]; exact upd_same, T.cl_Piece, T.n_Piece__rows, Nat.lt_of_le_of_lt (lenp (lenp (lenp (lenp (lenp (n := 0) (Nat.zero_le _)))))) (by decide), ?_⟩
    have tp : TupS H _ := fun a xs e => s7 _ _ (ne_of e hp (by intro z; cases z)) e
    have q0 : H q = none := by
      cases e : H q with
      | none => rfl
      | some o => rw [s7 q o nq e] at hq; cases hq
    refine k _ q ((s7.trans (Stp.new hq)).trans Stp.put) ⟨dx, as, upd_same, by rw [upd_ne nq]; exact upd_same, ?_⟩ q0
    refine hR.tups (fun a xs e => ?_)
    have n1 : a ≠ p := ne_of e hp (by intro z; cases z)
    rw [upd_ne n1]
    exact (show Stp p _ _ from Stp.new hq) _ _ n1 (s7 _ _ n1 e)
def sp_rows (C : Addr) : Sp := fun vs H Q _ => ∃ (p q : Addr) (M : PM), vs = [.ref p] ∧ PieceQ C H p q M ∧ ∀ (g : Addr) (as : List Addr), H g = none → RowsIn H as M.rows → Q (.ref g) (upd H g (.lst (as.map V.ref)))
theorem ok_Piece_rows (T : Txt K w mg Z) : FnOk P w K mg base CX0 1 Z.a_Piece_rows Z.d_Piece_rows ["self"] (sp_rows Z.C_Piece) := by
  refine T.F_Piece_rows.ok sc_Piece_rows (fun vs H Q E h => ?_) (fun cdv A outer s H vs Q E hr h => ?_)
  · obtain ⟨p, q, M, rfl, _⟩ := h
    rfl
  · obtain ⟨p, q, M, rfl, ⟨dx, as, h1, h2, h3⟩, k⟩ := h
    refine ⟨_, (pss_one (ps_ret (pe_callTy call_list_of (by rfl) T.n_list boot_list (pa_cons (pe_fld (pv 0) rfl) pa_nil)))), ?_⟩
    exact ⟨.ref p, rfl, p, _, dx, _, .ref q, rfl, h1, T.cl_Piece, T.n_Piece__rows, pf_rows, q, _, rfl, .inl (SqL.of h2), fun g hg => k g as hg h3⟩
def sp_shared (C : Addr) : Sp := fun vs H Q _ => ∃ (p q : Addr) (M : PM), vs = [.ref p] ∧ PieceQ C H p q M ∧ Q (.bl (!decide (M.scope = "local"))) H
theorem ok_Piece_shared (T : Txt K w mg Z) : FnOk P w K mg base CX0 1 Z.a_Piece_is_shared Z.d_Piece_is_shared ["self"] (sp_shared Z.C_Piece) := by
  refine T.F_Piece_is_shared.ok sc_Piece_is_shared (fun vs H Q E h => ?_) (fun cdv A outer s H vs Q E hr h => ?_)
  · obtain ⟨p, q, M, rfl, _⟩ := h
    rfl
  · obtain ⟨p, q, M, rfl, ⟨dx, as, h1, h2, h3⟩, k⟩ := h
    refine ⟨_, (pss_one (ps_ret (pe_cmpR op_ne (pe_fld (pv 0) rfl) pe_str (nomark _)))), ?_⟩
    refine ⟨.ref p, rfl, p, _, dx, _, .str M.scope, rfl, h1, T.cl_Piece, T.n_Piece_scope, pf_scope, rfl, ?_⟩
    have e : decide (V.str M.scope = V.str "local") = decide (M.scope = "local") := by
      by_cases c : M.scope = "local"
      · rw [c]; rfl
      · rw [decide_eq_false c, decide_eq_false fun z => c (V.str.inj z)]
    rw [← e] at k
    exact k
def sp_strong (C : Addr) : Sp := fun vs H Q _ => ∃ (p q : Addr) (M : PM), vs = [.ref p] ∧ PieceQ C H p q M ∧ Q (.bl (inV (.str M.scope) strongL)) H
theorem ok_Piece_strong (T : Txt K w mg Z) : FnOk P w K mg base CX0 1 Z.a_Piece_is_strong Z.d_Piece_is_strong ["self"] (sp_strong Z.C_Piece) := by
  refine T.F_Piece_is_strong.ok sc_Piece_is_strong (fun vs H Q E h => ?_) (fun cdv A outer s H vs Q E hr h => ?_)
  · obtain ⟨p, q, M, rfl, _⟩ := h
    rfl
  · obtain ⟨p, q, M, rfl, ⟨dx, as, h1, h2, h3⟩, k⟩ := h
    refine ⟨_, (pss_one (ps_ret (pe_cmpR (op_in_seq : OpR _ _ (rIn K false)) (pe_fld (pv 0) rfl) (pe_glob (v := .ref Z.c_STRONG) (by rfl) T.g_STRONG rfl) (by rfl)))), ?_⟩
    exact ⟨.ref p, rfl, p, _, dx, _, .str M.scope, rfl, h1, T.cl_Piece, T.n_Piece_scope, pf_scope, _, strongL, rfl, .inr (T.v_STRONG H), rfl, rfl, k⟩
def sp_len (C : Addr) : Sp := fun vs H Q _ => ∃ (p q : Addr) (M : PM), vs = [.ref p] ∧ PieceQ C H p q M ∧ Q (.int (M.rows.length : Nat)) H
theorem ok_Piece_len (T : Txt K w mg Z) : FnOk P w K mg base CX0 1 Z.a_Piece___len__ Z.d_Piece___len__ ["self"] (sp_len Z.C_Piece) := by
  refine T.F_Piece___len__.ok sc_Piece___len__ (fun vs H Q E h => ?_) (fun cdv A outer s H vs Q E hr h => ?_)
  · obtain ⟨p, q, M, rfl, _⟩ := h
    rfl
  · obtain ⟨p, q, M, rfl, ⟨dx, as, h1, h2, h3⟩, k⟩ := h
    refine ⟨_, (pss_one (ps_ret (pe_callB call_len (by rfl) T.n_len boot_len (pa_cons (pe_fld (pv 0) rfl) pa_nil)))), ?_⟩
    exact ⟨.ref p, rfl, p, _, dx, _, .ref q, rfl, h1, T.cl_Piece, T.n_Piece__rows, pf_rows, .ref q, M.rows.length, rfl, .inl ⟨_, SqL.of h2, by rw [List.length_map, h3.len]⟩, k⟩
def sp_bool : Sp := fun vs H Q _ => ∃ (p : Addr), vs = [.ref p] ∧ Q (.bl true) H
theorem ok_Piece_bool (T : Txt K w mg Z) : FnOk P w K mg base CX0 1 Z.a_Piece___bool__ Z.d_Piece___bool__ ["self"] sp_bool := by
  refine T.F_Piece___bool__.ok sc_Piece___bool__ (fun vs H Q E h => ?_) (fun cdv A outer s H vs Q E hr h => ?_)
  · obtain ⟨p, rfl, _⟩ := h
    rfl
  · obtain ⟨p, rfl, k⟩ := h
    exact ⟨_, (pss_one (ps_ret pe_bl)), k⟩
theorem lsz {a b : Str} {n m : Nat} (h1 : a.length ≤ n) (h2 : b.length ≤ m) : (a ++ b).length ≤ n + m := by
  rw [Str.length_append]
  exact Nat.add_le_add h1 h2
theorem StrK.len {z : Str} (h : StrK z) : z.length ≤ 100000 := h.1
theorem lenI {n : Nat} (h : n ≤ 1000) : (Str.ofString (toString (n : Int))).length ≤ 100 := by
  have e := int_text_length_le10 (a := (n : Int)) (k := 4) (by decide) (by show n < 10 ^ 4; omega)
  rw [PySem.ofString_length]
  omega
theorem lenL {x : Str} {n : Nat} (h : decide (x.length ≤ n) = true) : x.length ≤ n := of_decide_eq_true h
theorem log2I {n : Nat} (h : n ≤ 1000) : (n : Int).natAbs.log2 < 1920 := by
  show n.log2 < 1920
  by_cases c : n = 0
  · rw [c]; decide
  · have q : n.log2 < 10 := (Nat.log2_lt c).mpr (Nat.lt_of_le_of_lt h (by decide))
    omega
/-- the label of a piece -/
def pmLab (M : PM) : Str := ((((("Piece(" ++ M.part) ++ " ") ++ M.name) ++ ", ") ++ Str.ofString (toString ((M.rows.length : Nat) : Int))) ++ " rows)"
theorem PM.Ok.lab {ts : List Str} {M : PM} (h : M.Ok ts) : (("Piece(" : Str) ++ M.part).length ≤ 100006 ∧ ((("Piece(" : Str) ++ M.part) ++ " ").length ≤ 100007 ∧ (((("Piece(" : Str) ++ M.part) ++ " ") ++ M.name).length ≤ 200007 ∧ ((((("Piece(" : Str) ++ M.part) ++ " ") ++ M.name) ++ ", ").length ≤ 200009 ∧ (((((("Piece(" : Str) ++ M.part) ++ " ") ++ M.name) ++ ", ") ++ Str.ofString (toString ((M.rows.length : Nat) : Int))).length ≤ 200109 ∧ (pmLab M).length ≤ 200115 := by
  have a1 := lsz (lenL (x := "Piece(") (n := 6) (by decide +kernel)) (ptK h.pt).len
  have a2 := lsz a1 (lenL (x := " ") (n := 1) (by decide +kernel))
  have a3 := lsz a2 h.nm.strK.len
  have a4 := lsz a3 (lenL (x := ", ") (n := 2) (by decide +kernel))
  have a5 := lsz a4 (lenI (Nat.le_trans h.ln (by decide)))
  have a6 := lsz a5 (lenL (x := " rows)") (n := 6) (by decide +kernel))
  exact ⟨a1, a2, a3, a4, a5, a6⟩
def sp_repr (C : Addr) : Sp := fun vs H Q _ => ∃ (p q : Addr) (M : PM) (ts : List Str), vs = [.ref p] ∧ PieceQ C H p q M ∧ M.Ok ts ∧ Q (.str (pmLab M)) H
theorem big {n : Nat} (h : n ≤ 1000000) : n ≤ sizeLine := Nat.le_trans h (by decide)
theorem ok_Piece_repr (T : Txt K w mg Z) : FnOk P w K mg base CX0 1 Z.a_Piece___repr__ Z.d_Piece___repr__ ["self"] (sp_repr Z.C_Piece) := by
  refine T.F_Piece___repr__.ok sc_Piece___repr__ (fun vs H Q E h => ?_) (fun cdv A outer s H vs Q E hr h => ?_)
  · obtain ⟨p, q, M, ts, rfl, _⟩ := h
    rfl
  · obtain ⟨p, q, M, ts, rfl, ⟨dx, as, h1, h2, h3⟩, ok, k⟩ := h
    refine ⟨_, (pss_one (ps_ret (pe_joined (.cons pe_str (.cons (pe_fmt (pe_fld (pv 0) rfl)) (.cons pe_str (.cons (pe_fmt (pe_fld (pv 0) rfl)) (.cons pe_str (.cons (pe_fmt (pe_callB call_len (by rfl) T.n_len boot_len (pa_cons (pe_fld (pv 0) rfl) pa_nil))) (.cons pe_str .nil)))))))))), ?_⟩
    obtain ⟨b1, b2, b3, b4, b5, b6⟩ := ok.lab
    have e0 : Str.empty ++ Str.ofString "Piece(" = Str.ofString "Piece(" := by decide +kernel
    refine ⟨"Piece(", rfl, ?_, ?_⟩
    · rw [e0]
      exact lenL (by decide +kernel)
    rw [e0]
    refine ⟨.ref p, rfl, p, _, dx, _, .str M.part, rfl, h1, T.cl_Piece, T.n_Piece_part, pf_part, .inl ⟨M.part, rfl, big (Nat.le_trans (ptK ok.pt).len (by decide)), M.part, rfl, big (Nat.le_trans b1 (by decide)), ?_⟩⟩
    refine ⟨" ", rfl, big (Nat.le_trans b2 (by decide)), ?_⟩
    refine ⟨.ref p, rfl, p, _, dx, _, .str M.name, rfl, h1, T.cl_Piece, T.n_Piece_name, pf_name, .inl ⟨M.name, rfl, big (Nat.le_trans ok.nm.strK.len (by decide)), M.name, rfl, big (Nat.le_trans b3 (by decide)), ?_⟩⟩
    refine ⟨", ", rfl, big (Nat.le_trans b4 (by decide)), ?_⟩
    refine ⟨.ref p, rfl, p, _, dx, _, .ref q, rfl, h1, T.cl_Piece, T.n_Piece__rows, pf_rows, .ref q, M.rows.length, rfl, .inl ⟨_, SqL.of h2, by rw [List.length_map, h3.len]⟩, .inr ⟨_, rfl, log2I (Nat.le_trans ok.ln (by decide)), _, rfl, big (Nat.le_trans b5 (by decide)), ?_⟩⟩
    exact ⟨" rows)", rfl, big (Nat.le_trans b6 (by decide)), k⟩
def EqTo (K : PySem.W.Frag) (C : Addr) (ts : List Str) (H : Hp) (M : PM) (y : V) (r : Bool) : Prop := (∃ b q N, y = .ref b ∧ PieceQ C H b q N ∧ N.Ok ts ∧ r = pmEq M N) ∨ (∃ t, t ∈ six ∧ TyX K H y (.type t) ∧ r = false)
def sp_peq (K : PySem.W.Frag) (C : Addr) : Sp := fun vs H Q _ => ∃ (p q : Addr) (M : PM) (ts : List Str) (y : V) (r : Bool), vs = [.ref p, y] ∧ PieceQ C H p q M ∧ (∀ z ∈ ts, Nm z) ∧ M.Ok ts ∧ EqTo K C ts H M y r ∧ Q (.bl r) H
theorem dstr {a b : Str} : decide (V.str a = V.str b) = decide (a = b) := by
  by_cases c : a = b
  · rw [c, decide_eq_true rfl, decide_eq_true rfl]
  · rw [decide_eq_false c, decide_eq_false fun z => c (V.str.inj z)]
theorem dint {a b : Int} : decide (V.int a = V.int b) = decide (a = b) := by
  by_cases c : a = b
  · rw [c, decide_eq_true rfl, decide_eq_true rfl]
  · rw [decide_eq_false c, decide_eq_false fun z => c (V.int.inj z)]
theorem dbl {a b : Bool} : decide (V.bl a = V.bl b) = decide (a = b) := by
  by_cases c : a = b
  · rw [c, decide_eq_true rfl, decide_eq_true rfl]
  · rw [decide_eq_false c, decide_eq_false fun z => c (V.bl.inj z)]
theorem ok_Piece_eq (T : Txt K w mg Z) : FnOk P w K mg base CX0 1 Z.a_Piece___eq__ Z.d_Piece___eq__ ["self", "other"] (sp_peq K Z.C_Piece) := by
  refine T.F_Piece___eq__.ok sc_Piece___eq__ (fun vs H Q E h => ?_) (fun cdv A outer s H vs Q E hr h => ?_)
  · obtain ⟨p, q, M, ts, y, r, rfl, _⟩ := h
    rfl
  · obtain ⟨p, q, M, ts, y, r, rfl, ⟨dx, as, h1, h2, h3⟩, hz, ok, hy, k⟩ := h
    refine ⟨_, (pss_one (ps_ret (pe_and (pe_callB call_isi (by rfl) T.n_isinstance boot_isinstance (pa_cons (pv 1) (pa_cons (pe_glob (v := .ref Z.C_Piece) (by rfl) T.m_Piece rfl) pa_nil))) (pe_and (pe_cmpR op_eq (pe_fld (pv 0) rfl) (pe_fld (pv 1) rfl) (nomark _)) (pe_and (pe_cmpR op_eq (pe_fld (pv 0) rfl) (pe_fld (pv 1) rfl) (nomark _)) (pe_and (pe_cmpR op_eq (pe_fld (pv 0) rfl) (pe_fld (pv 1) rfl) (nomark _)) (pe_and (pe_cmpR op_eq (pe_fld (pv 0) rfl) (pe_fld (pv 1) rfl) (nomark _)) (pe_and (pe_cmpR op_eq (pe_fld (pv 0) rfl) (pe_fld (pv 1) rfl) (nomark _)) (pe_one ((pe_cmpR (op_eqD hr.units) (pe_fld (pv 0) rfl) (pe_fld (pv 1) rfl) (nomark _)))))))))))), ?_⟩
    rcases hy with ⟨b, q', N, rfl, ⟨dx', as', g1, g2, g3⟩, on, rfl⟩ | ⟨t, mt, ty, rfl⟩
    · refine ⟨.ref b, rfl, _, _, _, _, true, rfl, .own _, TyX.insK T.i_Piece g1, T.i_Piece.ins.me, true, rfl, iteT ?_⟩
      unfold pmEq at k
      refine ⟨.ref p, rfl, p, _, dx, _, .str M.name, rfl, h1, T.cl_Piece, T.n_Piece_name, pf_name, .ref b, rfl, b, _, dx', _, .str N.name, rfl, g1, T.cl_Piece, T.n_Piece_name, pf_name, rfl, _, rfl, ?_⟩
      rw [dstr]
      by_cases c1 : M.name = N.name
      rotate_left
      · rw [decide_eq_false c1] at k ⊢
        exact iteF k
      rw [decide_eq_true c1] at k ⊢
      refine iteT ⟨.ref p, rfl, p, _, dx, _, .str M.part, rfl, h1, T.cl_Piece, T.n_Piece_part, pf_part, .ref b, rfl, b, _, dx', _, .str N.part, rfl, g1, T.cl_Piece, T.n_Piece_part, pf_part, rfl, _, rfl, ?_⟩
      rw [dstr]
      by_cases c2 : M.part = N.part
      rotate_left
      · rw [decide_eq_false c2] at k ⊢
        exact iteF k
      rw [decide_eq_true c2] at k ⊢
      refine iteT ⟨.ref p, rfl, p, _, dx, _, .int M.al, rfl, h1, T.cl_Piece, T.n_Piece_alignment, pf_al, .ref b, rfl, b, _, dx', _, .int N.al, rfl, g1, T.cl_Piece, T.n_Piece_alignment, pf_al, rfl, _, rfl, ?_⟩
      rw [dint]
      by_cases c3 : M.al = N.al
      rotate_left
      · rw [decide_eq_false c3] at k ⊢
        exact iteF k
      rw [decide_eq_true c3] at k ⊢
      refine iteT ⟨.ref p, rfl, p, _, dx, _, .str M.scope, rfl, h1, T.cl_Piece, T.n_Piece_scope, pf_scope, .ref b, rfl, b, _, dx', _, .str N.scope, rfl, g1, T.cl_Piece, T.n_Piece_scope, pf_scope, rfl, _, rfl, ?_⟩
      rw [dstr]
      by_cases c4 : M.scope = N.scope
      rotate_left
      · rw [decide_eq_false c4] at k ⊢
        exact iteF k
      rw [decide_eq_true c4] at k ⊢
      refine iteT ⟨.ref p, rfl, p, _, dx, _, .bl M.keep, rfl, h1, T.cl_Piece, T.n_Piece_keep, pf_keep, .ref b, rfl, b, _, dx', _, .bl N.keep, rfl, g1, T.cl_Piece, T.n_Piece_keep, pf_keep, rfl, _, rfl, ?_⟩
      rw [dbl]
      by_cases c5 : M.keep = N.keep
      rotate_left
      · rw [decide_eq_false c5] at k ⊢
        exact iteF k
      rw [decide_eq_true c5] at k ⊢
      refine iteT ⟨.ref p, rfl, p, _, dx, _, .ref q, rfl, h1, T.cl_Piece, T.n_Piece__rows, pf_rows, .ref b, rfl, b, _, dx', _, .ref q', rfl, g1, T.cl_Piece, T.n_Piece__rows, pf_rows, ?_⟩
      have f1 : ∀ xs ∈ M.rows, ∀ x ∈ xs, okF x := fun xs m => (ok.rw xs m).okF hz
      have f2 : ∀ xs ∈ N.rows, ∀ x ∈ xs, okF x := fun xs m => (on.rw xs m).okF hz
      exact ⟨datR M.rows, datR N.rows, dp_rows (SqL.of h2) h3 (fun xs m x n => (f1 xs m x n).1), dp_rows (SqL.of g2) g3 (fun xs m x n => (f2 xs m x n).1), shaped_rows f1, shaped_rows f2, k⟩
    · exact ⟨_, rfl, _, _, _, _, false, rfl, .own _, ty, T.i_Piece.no _ mt, false, rfl, iteF k⟩
end

section
variable {P : Program} {w : World} {K : PySem.W.Frag} {mg : Str → Option Value} {base : Heap} {Z : Fs}
/-! ### a closing row that is told as such -/
def sp_law_last_row : Sp := fun vs H Q _ => ∃ (b l t : Addr) (ts : List Str), vs = [.ref b, .ref t] ∧ Bag H b l ∧ Tls H b t ts ∧ ∀ (H' : Hp) (a : Addr) (xs : List V), Stp b H H' → Bag H' b l → H' a = some (.tup xs) → a ≠ b → CRow ts xs → inV (hd0 xs) closL = true → Q (.ref a) H'
theorem ok_law_last_row (T : Txt K w mg Z) : FnOk P w K mg base CX0 3 Z.a_law_last_row Z.d_law_last_row ["_law_bag_here", "_law_titles_here"] sp_law_last_row := by
  have G_law_of : FnOk P w K mg base CX0 2 Z.a_law_of Z.d_law_of ["_law_bag_here", "_law_things"] (sp_law_of K) := ok_law_of T
  refine T.F_law_last_row.ok sc_law_last_row (fun vs H Q E h => ?_) (fun cdv A outer s H vs Q E hr h => ?_)
  · obtain ⟨b, l, t, ts, rfl, _⟩ := h
    rfl
  · obtain ⟨b, l, t, ts, rfl, B, TT, k⟩ := h
    refine ⟨_, (pss_one (ps_ret (pe_call G_law_of (hr.mono (by omega)) (by rfl) T.m_law_of T.F_law_of.kp T.b_law_of .nil pass0 (pa_cons (pv 0) (pa_cons (pe_lst (pa_cons (pe_tup (pa_cons pe_str (pa_cons (pe_call G_law_of (hr.mono (by omega)) (by rfl) T.m_law_of T.F_law_of.kp T.b_law_of .nil pass0 (pa_cons (pv 0) (pa_cons (pv 1) pa_nil))) pa_nil))) (pa_cons (pe_tup (pa_cons pe_str pa_nil)) (pa_cons (pe_tup (pa_cons pe_str pa_nil)) pa_nil)))) pa_nil))))), ?_⟩
    refine ⟨.ref b, rfl, .ref b, rfl, .ref t, rfl, b, l, .ref t, _, rfl, B, TT.thg, fun H0 u s0 B0 hu => ?_⟩
    obtain ⟨z, rfl, hz⟩ := hu
    refine ⟨(by show 2 ≤ sizeLine; decide), fun p1 h1 => ?_⟩
    have n1 := B0.ne h1
    have s1 : Same H0 (upd H0 p1 (.tup [V.str "jump", V.str z])) := Same.new h1
    have e1 : (upd H0 p1 (.tup [V.str "jump", V.str z])) p1 = some (.tup [V.str "jump", V.str z]) := upd_same
    generalize upd H0 p1 (.tup [V.str "jump", V.str z]) = H1 at s1 e1 ⊢
    have B1 := B0.same s1
    refine ⟨(by show 1 ≤ sizeLine; decide), fun p2 h2 => ?_⟩
    have n2 := B1.ne h2
    have s2 : Same H1 (upd H1 p2 (.tup [V.str "halt"])) := Same.new h2
    have e2 : (upd H1 p2 (.tup [V.str "halt"])) p2 = some (.tup [V.str "halt"]) := upd_same
    generalize upd H1 p2 (.tup [V.str "halt"]) = H2 at s2 e2 ⊢
    have B2 := B1.same s2
    refine ⟨(by show 1 ≤ sizeLine; decide), fun p3 h3 => ?_⟩
    have n3 := B2.ne h3
    have s3 : Same H2 (upd H2 p3 (.tup [V.str "back"])) := Same.new h3
    have e3 : (upd H2 p3 (.tup [V.str "back"])) p3 = some (.tup [V.str "back"]) := upd_same
    generalize upd H2 p3 (.tup [V.str "back"]) = H3 at s3 e3 ⊢
    have B3 := B2.same s3
    refine ⟨(by show 3 ≤ sizeLine; decide), fun q4 hq4 => ?_⟩
    have f2 := s3 _ _ e2
    have f1 := s3 _ _ (s2 _ _ e1)
    refine ⟨b, l, .ref q4, fun v => ∃ (a : Addr) (xs : List V), v = .ref a ∧ H3 a = some (.tup xs) ∧ a ≠ b ∧ CRow ts xs ∧ inV (hd0 xs) closL = true, rfl, B3.new hq4, .lst (B3.ne hq4) (SqL.of upd_same) (by show 0 < 3; decide) (by show 3 ≤ 100000; decide) (memc ⟨_, _, rfl, f1, n1, .jump hz, by show inV (.str "jump") closL = true; decide +kernel⟩ (memc ⟨_, _, rfl, f2, n2, .halt, by decide +kernel⟩ (mem1 ⟨_, _, rfl, e3, n3, .back, by decide +kernel⟩))), fun H5 u s5 B5 hu => ?_⟩
    obtain ⟨a, xs, rfl, ea, na, hx, hc⟩ := hu
    exact k _ a xs (((s0.trans (Same.stp ((s1.trans s2).trans s3))).trans (Stp.new hq4)).trans s5) B5 (s5 _ _ na ((Stp.new hq4) _ _ na ea)) na hx hc
/-! ### a drawn model of a piece -/
def ModQ (H : Hp) (m lot : Addr) (M : PM) : Prop := ∃ as : List Addr, H m = some (.tup [.str M.name, .str M.part, .ref lot, .int M.al, .str M.scope, .bl M.keep]) ∧ H lot = some (.lst (as.map V.ref)) ∧ RowsIn H as M.rows
theorem ModQ.same {H H' : Hp} {m lot : Addr} {M : PM} (s : Same H H') (h : ModQ H m lot M) : ModQ H' m lot M := by
  obtain ⟨as, h1, h2, h3⟩ := h
  exact ⟨as, s _ _ h1, s _ _ h2, h3.tups (Same.tups s)⟩
theorem ModQ.stp {H H' : Hp} {b l m lot : Addr} {M : PM} (s : Stp b H H') (B : Bag H b l) (n : lot ≠ b) (h : ModQ H m lot M) : ModQ H' m lot M := by
  obtain ⟨as, h1, h2, h3⟩ := h
  obtain ⟨_, _, _, _, _, g1, _⟩ := id B
  exact ⟨as, s _ _ (ne_of h1 g1 (by intro z; cases z)) h1, s _ _ n h2, h3.tups (s.tups B)⟩
theorem ModQ.put {H : Hp} {m lot g : Addr} {o : HO} {M : PM} {xs : List V} (e : H g = some (.lst xs)) (n : lot ≠ g) (h : ModQ H m lot M) : ModQ (upd H g o) m lot M := by
  obtain ⟨as, h1, h2, h3⟩ := h
  refine ⟨as, ?_, by rw [upd_ne n]; exact h2, h3.tups (TupS.put (fun _ _ x => x) fun ys z => by rw [e] at z; cases z)⟩
  rw [upd_ne (ne_of h1 e (by intro z; cases z))]
  exact h1
def sp_model (K : PySem.W.Frag) : Sp := fun vs H Q _ => ∃ (b l t : Addr) (ts : List Str) (t0 : Str) (most : Int), vs = [.ref b, .str t0, .ref t, .int most] ∧ Bag H b l ∧ Tls H b t ts ∧ (∀ z ∈ ts, Nm z) ∧ t0 ∈ ts ∧ 0 ≤ most ∧ most ≤ 15 ∧
  ∀ (H' : Hp) (m lot : Addr) (M : PM), Stp b H H' → Bag H' b l → H lot = none → lot ≠ b → lot ≠ l → ModQ H' m lot M → M.Ok ts → M.name = t0 → Q (.ref m) H'
theorem ok_law_piece_model (T : Txt K w mg Z) : FnOk P w K mg base CX0 5 Z.a_law_piece_model Z.d_law_piece_model ["_law_bag_here", "_law_title", "_law_titles_here", "_law_most"] (sp_model K) := by
  have G_law_draw : FnOk P w K mg base CX0 1 Z.a_law_draw Z.d_law_draw ["_law_bag_here", "_law_sides"] sp_law_draw := ok_law_draw T
  have G_law_of : FnOk P w K mg base CX0 2 Z.a_law_of Z.d_law_of ["_law_bag_here", "_law_things"] (sp_law_of K) := ok_law_of T
  have G_law_code_row : FnOk P w K mg base CX0 4 Z.a_law_code_row Z.d_law_code_row ["_law_bag_here", "_law_titles_here"] sp_law_code_row := ok_law_code_row T
  have G_law_data_row : FnOk P w K mg base CX0 4 Z.a_law_data_row Z.d_law_data_row ["_law_bag_here", "_law_titles_here"] sp_law_data_row := ok_law_data_row T
  have G_law_last_row : FnOk P w K mg base CX0 3 Z.a_law_last_row Z.d_law_last_row ["_law_bag_here", "_law_titles_here"] sp_law_last_row := ok_law_last_row T
  refine T.F_law_piece_model.ok sc_law_piece_model (fun vs H Q E h => ?_) (fun cdv A outer s H vs Q E hr h => ?_)
  · obtain ⟨b, l, t, ts, t0, most, rfl, _⟩ := h
    rfl
  · obtain ⟨b, l, t, ts, t0, most, rfl, B, TT, hz, ht0, hm0, hm1, k⟩ := h
    refine ⟨_, (pss_cons (ps_set (i := 4) sc_law_piece_model.nd rfl (Or.inl rfl) (pe_call G_law_of (hr.mono (by omega)) (by rfl) T.m_law_of T.F_law_of.kp T.b_law_of .nil pass0 (pa_cons (pv 0) (pa_cons (pe_lst (pa_cons pe_str (pa_cons pe_str (pa_cons pe_str pa_nil)))) pa_nil))))
      (C8.pss_cut (ps_set (i := 5) sc_law_piece_model.nd rfl (Or.inl rfl) (pe_op op_cat (pe_lst (pa_cons pe_str (pa_cons pe_str (pa_cons pe_str pa_nil)))) (pe_ifExp (pt_cmpR op_eq (pv 4) pe_str (nomark _)) (pe_lst (pa_cons pe_str pa_nil)) (pe_lst pa_nil))))
      (C8.pss_cut (ps_if (pt_cmpR op_eq (pv 4) pe_str (nomark _)) (pss_one (ps_set (i := 6) sc_law_piece_model.nd rfl (Or.inl rfl) (pe_op op_cat (pe_lc (own := [("_law_k", 7)]) (g := gName 7) (tt := tYes) rfl sc_law_piece_model.nd (pi_range1 (by rfl) T.n_range (pa_cons (pe_call G_law_draw (hr.mono (by omega)) (by rfl) T.m_law_draw T.F_law_draw.kp T.b_law_draw .nil pass0 (pa_cons (pv 0) (pa_cons (pe_op op_add (pv 3) pe_int) pa_nil))) pa_nil)) (blkOk_by (N := N_law_piece_model) (sc := defScope s_law_piece_model) (by decide +kernel)) (fun _ _ _ _ _ => pg_name (i := 7) sc_law_piece_model.nd rfl (Or.inl rfl)) (fun _ _ _ _ _ => pts_nil) (fun _ _ _ _ _ => (pe_call G_law_code_row (hr.mono (by omega)) (by rfl) T.m_law_code_row T.F_law_code_row.kp T.b_law_code_row .nil pass0 (pa_cons (pv 0) (pa_cons (pv 2) pa_nil))))) (pe_lst (pa_cons (pe_call G_law_last_row (hr.mono (by omega)) (by rfl) T.m_law_last_row T.F_law_last_row.kp T.b_law_last_row .nil pass0 (pa_cons (pv 0) (pa_cons (pv 2) pa_nil))) pa_nil))))) (pss_one (ps_setLc (i := 6) (own := [("_law_k", 7)]) (g := gName 7) (tt := tYes) rfl sc_law_piece_model.nd rfl rfl (sw_true rfl rfl rfl (by decide +kernel)) (pi_range1 (by rfl) T.n_range (pa_cons (pe_call G_law_draw (hr.mono (by omega)) (by rfl) T.m_law_draw T.F_law_draw.kp T.b_law_draw .nil pass0 (pa_cons (pv 0) (pa_cons (pe_op op_add (pv 3) pe_int) pa_nil))) pa_nil)) (blkOk_by (N := N_law_piece_model) (sc := defScope s_law_piece_model) (by decide +kernel)) (fun _ _ _ _ _ => pg_name (i := 7) sc_law_piece_model.nd rfl (Or.inl rfl)) (fun _ _ _ _ _ => pts_nil) (fun _ _ _ _ _ => (pe_call G_law_data_row (hr.mono (by omega)) (by rfl) T.m_law_data_row T.F_law_data_row.kp T.b_law_data_row .nil pass0 (pa_cons (pv 0) (pa_cons (pv 2) pa_nil)))))))
      (pss_one (ps_ret (pe_tup (pa_cons (pv 1) (pa_cons (pv 4) (pa_cons (pv 6) (pa_cons (pe_call G_law_of (hr.mono (by omega)) (by rfl) T.m_law_of T.F_law_of.kp T.b_law_of .nil pass0 (pa_cons (pv 0) (pa_cons (pe_lst (pa_cons pe_int (pa_cons pe_int (pa_cons pe_int (pa_cons pe_int (pa_cons pe_int (pa_cons pe_int pa_nil))))))) pa_nil))) (pa_cons (pe_call G_law_of (hr.mono (by omega)) (by rfl) T.m_law_of T.F_law_of.kp T.b_law_of .nil pass0 (pa_cons (pv 0) (pa_cons (pv 5) pa_nil))) (pa_cons (pe_cmpR op_eq (pe_call G_law_draw (hr.mono (by omega)) (by rfl) T.m_law_draw T.F_law_draw.kp T.b_law_draw .nil pass0 (pa_cons (pv 0) (pa_cons pe_int pa_nil))) pe_int (nomark _)) pa_nil)))))))))))), ?_⟩
    refine ⟨.ref b, rfl, (by show 3 ≤ sizeLine; decide), fun q hq => ⟨b, l, .ref q, fun v => ∃ z : Str, v = .str z ∧ (z = "code" ∨ z = "data"), rfl, B.new hq, .lst (B.ne hq) (SqL.of upd_same) (by show 0 < 3; decide) (by show 3 ≤ 100000; decide) (memc ⟨_, rfl, .inl rfl⟩ (memc ⟨_, rfl, .inl rfl⟩ (mem1 ⟨_, rfl, .inr rfl⟩))), fun H1 v s1 B1 hv => ?_⟩⟩
    obtain ⟨side, rfl, hside⟩ := hv
    replace s1 := (Stp.new hq).trans s1
    clear hq
    -- the scopes
    refine ⟨fun σ H' => ∃ (g : Addr) (scs : List V), σ = [some (.ref b), some (.str t0), some (.ref t), some (.int most), some (.str side), some (.ref g), none, none] ∧ Stp b H H' ∧ Bag H' b l ∧ g ≠ b ∧ H' g = some (.lst scs) ∧ 0 < scs.length ∧ scs.length ≤ 100000 ∧ ∀ v ∈ scs, ∃ z : Str, v = .str z ∧ z ∈ (["local", "export", "open", "weak"] : List Str) ∧ (side = "data" → z ≠ "open"), ?_, ?_⟩
    · refine ⟨(by show 3 ≤ sizeLine; decide), fun p1 h1 => ?_⟩
      have s2 : Same H1 (upd H1 p1 (.lst [V.str "local", V.str "export", V.str "weak"])) := Same.new h1
      have e2 : (upd H1 p1 (.lst [V.str "local", V.str "export", V.str "weak"])) p1 = some (.lst [V.str "local", V.str "export", V.str "weak"]) := upd_same
      generalize upd H1 p1 (.lst [V.str "local", V.str "export", V.str "weak"]) = H2 at s2 e2 ⊢
      have B2 := B1.same s2
      refine ⟨.str side, rfl, rfl, _, rfl, ?_⟩
      have three : ∀ (d : side = "data" → True), ∀ v ∈ [V.str "local", V.str "export", V.str "weak"], ∃ z : Str, v = .str z ∧ z ∈ (["local", "export", "open", "weak"] : List Str) ∧ (side = "data" → z ≠ "open") := fun _ => memc ⟨_, rfl, by decide +kernel, fun _ => by decide +kernel⟩ (memc ⟨_, rfl, by decide +kernel, fun _ => by decide +kernel⟩ (mem1 ⟨_, rfl, by decide +kernel, fun _ => by decide +kernel⟩))
      by_cases c : side = "code"
      · refine iteY (by rw [c]) ⟨(by show 1 ≤ sizeLine; decide), fun p2 h2 => ?_⟩
        have s3 : Same H2 (upd H2 p2 (.lst [V.str "open"])) := Same.new h2
        have e3 : (upd H2 p2 (.lst [V.str "open"])) p2 = some (.lst [V.str "open"]) := upd_same
        generalize upd H2 p2 (.lst [V.str "open"]) = H3 at s3 e3 ⊢
        refine ⟨p1, p2, _, _, rfl, rfl, s3 _ _ e2, e3, (by show 4 ≤ sizeLine; decide), fun p3 h3 => ?_⟩
        refine ⟨p3, _, rfl, s1.trans (Same.stp ((s2.trans s3).trans (Same.new h3))), (B2.same s3).new h3, (B2.same s3).ne h3, upd_same, by show 0 < 4; decide, by show 4 ≤ 100000; decide, mema (three fun _ => trivial) (mem1 ⟨_, rfl, by decide +kernel, fun d => ?_⟩)⟩
        rw [c] at d
        exact absurd d (by decide +kernel)
      · refine iteN (fun z => c (V.str.inj z)) ⟨(by show 0 ≤ sizeLine; decide), fun p2 h2 => ?_⟩
        have s3 : Same H2 (upd H2 p2 (.lst [])) := Same.new h2
        have e3 : (upd H2 p2 (.lst [])) p2 = some (.lst []) := upd_same
        generalize upd H2 p2 (.lst []) = H3 at s3 e3 ⊢
        refine ⟨p1, p2, _, _, rfl, rfl, s3 _ _ e2, e3, (by show 3 ≤ sizeLine; decide), fun p3 h3 => ?_⟩
        exact ⟨p3, _, rfl, s1.trans (Same.stp ((s2.trans s3).trans (Same.new h3))), (B2.same s3).new h3, (B2.same s3).ne h3, upd_same, by show 0 < 3; decide, by show 3 ≤ 100000; decide, three fun _ => trivial⟩
    rintro σ H2 ⟨g, scs, rfl, s2, B2, ng, eg, l0, l1, hs⟩
    clear s1 B1
    refine ⟨fun σ H' => ∃ (lot : Addr) (y7 : Option V) (as : List Addr) (rs : List (List V)), σ = [some (.ref b), some (.str t0), some (.ref t), some (.int most), some (.str side), some (.ref g), some (.ref lot), y7] ∧ Stp b H H' ∧ Bag H' b l ∧ H' g = some (.lst scs) ∧ H lot = none ∧ lot ≠ b ∧ lot ≠ l ∧ H' lot = some (.lst (as.map V.ref)) ∧ RowsIn H' as rs ∧ (∀ xs ∈ rs, RowOf ts side xs) ∧ rs.length ≤ 16 ∧ (side = "code" → ∃ r xs, rs = r ++ [xs] ∧ inV (hd0 xs) closL = true), ?_, ?_⟩
    · refine ⟨.str side, rfl, rfl, _, rfl, ?_⟩
      have ro : ∀ {H' : Hp} {a : Addr} {xs : List V}, H' a = some (.tup xs) → H' a = some (.tup xs) := fun e => e
      by_cases c : side = "code"
      · refine iteY (by rw [c]) ⟨.ref b, rfl, .int most, rfl, _, _, rfl, rfl, b, l, most + 1, rfl, B2, by omega, by omega, fun H3 d s3 B3 g0 g1 => ⟨d, rfl, by omega, by omega, fun D hD => ?_⟩⟩
        have nD := B3.ne hD
        have lD := B3.nel hD
        have D0 : H D = none := (s2.trans s3).free B3 hD
        have T3 := TT.stp (s2.trans s3)
        have ntD : t ≠ D := ne_of_none T3.1 hD
        have e3 := s3 _ _ ng eg
        have ngD : g ≠ D := ne_of_none e3 hD
        refine lc_it walk_range (fun i H' => Bag H' b l ∧ Stp b H3 H' ∧ ∃ (as : List Addr) (rs : List (List V)), H' D = some (.lst (as.map V.ref)) ∧ RowsIn H' as rs ∧ rs.length = i ∧ ∀ xs ∈ rs, CRow ts xs) ⟨B3.new hD, Stp.new hD, [], [], upd_same, .nil, rfl, mem0⟩ (fun _ _ _ _ => True.intro) ?_ ?_
        · rintro j x H4 H5 hj ⟨B4, s4, as, rs, e4, R4, lr, hr4⟩ ⟨rfl, rfl⟩
          refine ⟨rfl, .ref b, rfl, .ref t, rfl, b, l, t, ts, rfl, B4, T3.stp s4, fun H6 a xs s6 B6 ea na hx => ?_⟩
          have e6 := s6 _ _ nD e4
          refine ⟨_, e6, ?_, B6.put nD lD, (s4.trans s6).putnew hD, as ++ [a], rs ++ [xs], by rw [upd_same, List.map_append]; rfl, ?_, by rw [List.length_append, lr]; rfl, mema hr4 (mem1 hx)⟩
          · rw [List.length_map, R4.len, lr]
            exact Nat.lt_of_lt_of_le (show j < 16 by omega) (by decide)
          · exact RowsIn.tups (TupS.put (fun _ _ x => x) fun ys z => by rw [e6] at z; cases z) ((R4.tups (s6.tups B4)).append (.cons ea .nil))
        rintro H4 ⟨B4, s4, as, rs, e4, R4, lr, hr4⟩
        refine ⟨.ref b, rfl, .ref t, rfl, b, l, t, ts, rfl, B4, T3.stp s4, fun H5 a xs s5 B5 ea na hx hc => ?_⟩
        refine ⟨(by show 1 ≤ sizeLine; decide), fun p6 h6 => ?_⟩
        have e5 := s5 _ _ nD e4
        have R5 := R4.tups (s5.tups B4)
        have s6 : Same H5 (upd H5 p6 (.lst [V.ref a])) := Same.new h6
        have e6 : (upd H5 p6 (.lst [V.ref a])) p6 = some (.lst [V.ref a]) := upd_same
        generalize upd H5 p6 (.lst [V.ref a]) = H6 at s6 e6 ⊢
        refine ⟨D, p6, _, _, rfl, rfl, s6 _ _ e5, e6, ?_, fun p7 h7 => ?_⟩
        · show (as.map V.ref).length + 1 ≤ sizeLine
          rw [List.length_map, R4.len, lr]
          exact Nat.le_trans (show d.toNat + 1 ≤ 100 by omega) (by decide)
        have ss := (((s2.trans s3).trans s4).trans s5).trans (Same.stp s6)
        have B6 := B5.same s6
        have s56 := s6.trans (Same.new h7 (o := .lst (as.map V.ref ++ [V.ref a])))
        refine ⟨p7, _, as ++ [a], rs ++ [xs], rfl, ss.trans (Stp.new h7), B6.new h7, s56 _ _ (s5 _ _ ng (s4 _ _ ng e3)), ss.free B6 h7, B6.ne h7, B6.nel h7, by rw [upd_same, List.map_append]; rfl, (R5.append (.cons ea .nil)).tups (Same.tups s56), ?_, ?_, fun _ => ⟨rs, xs, rfl, hc⟩⟩
        · intro ys m
          unfold RowOf
          rw [if_pos c]
          exact mema hr4 (mem1 hx) ys m
        · rw [List.length_append, lr]
          show d.toNat + 1 ≤ 16
          omega
      · refine iteN (fun z => c (V.str.inj z)) ⟨.ref b, rfl, .int most, rfl, _, _, rfl, rfl, b, l, most + 1, rfl, B2, by omega, by omega, fun H3 d s3 B3 g0 g1 => ⟨d, rfl, by omega, by omega, fun D hD => ?_⟩⟩
        have nD := B3.ne hD
        have lD := B3.nel hD
        have D0 : H D = none := (s2.trans s3).free B3 hD
        have T3 := TT.stp (s2.trans s3)
        have e3 := s3 _ _ ng eg
        refine lc_it walk_range (fun i H' => Bag H' b l ∧ Stp b H3 H' ∧ ∃ (as : List Addr) (rs : List (List V)), H' D = some (.lst (as.map V.ref)) ∧ RowsIn H' as rs ∧ rs.length = i ∧ ∀ xs ∈ rs, DRow ts xs) ⟨B3.new hD, Stp.new hD, [], [], upd_same, .nil, rfl, mem0⟩ (fun _ _ _ _ => True.intro) ?_ ?_
        · rintro j x H4 H5 hj ⟨B4, s4, as, rs, e4, R4, lr, hr4⟩ ⟨rfl, rfl⟩
          refine ⟨rfl, .ref b, rfl, .ref t, rfl, b, l, t, ts, rfl, B4, T3.stp s4, fun H6 a xs s6 B6 ea na hx => ?_⟩
          have e6 := s6 _ _ nD e4
          refine ⟨_, e6, ?_, B6.put nD lD, (s4.trans s6).putnew hD, as ++ [a], rs ++ [xs], by rw [upd_same, List.map_append]; rfl, ?_, by rw [List.length_append, lr]; rfl, mema hr4 (mem1 hx)⟩
          · rw [List.length_map, R4.len, lr]
            exact Nat.lt_of_lt_of_le (show j < 16 by omega) (by decide)
          · exact RowsIn.tups (TupS.put (fun _ _ x => x) fun ys z => by rw [e6] at z; cases z) ((R4.tups (s6.tups B4)).append (.cons ea .nil))
        rintro H4 ⟨B4, s4, as, rs, e4, R4, lr, hr4⟩
        refine ⟨D, _, as, rs, rfl, (s2.trans s3).trans s4, B4, s4 _ _ ng e3, D0, nD, lD, e4, R4, ?_, by omega, fun e => absurd e c⟩
        intro ys m
        unfold RowOf
        rw [if_neg c]
        exact hr4 ys m
    rintro σ H3 ⟨lot, y7, as, rs, rfl, s3, B3, e3, z3, n3, m3, el, R3, hrs, lrs, hcl⟩
    clear s2 B2 eg
    refine ⟨.str t0, rfl, .str side, rfl, .ref lot, rfl, .ref b, rfl, (by show 6 ≤ sizeLine; decide), fun q hq => ⟨b, l, .ref q, fun v => ∃ i : Int, v = .int i ∧ i ∈ ([1, 2, 4, 8, 16] : List Int), rfl, B3.new hq, .lst (B3.ne hq) (SqL.of upd_same) (by show 0 < 6; decide) (by show 6 ≤ 100000; decide) (memc ⟨_, rfl, by decide⟩ (memc ⟨_, rfl, by decide⟩ (memc ⟨_, rfl, by decide⟩ (memc ⟨_, rfl, by decide⟩ (memc ⟨_, rfl, by decide⟩ (mem1 ⟨_, rfl, by decide⟩)))))), fun H4 v s4 B4 hv => ?_⟩⟩
    obtain ⟨al, rfl, hal⟩ := hv
    have R4 := R3.tups ((Stp.trans (Stp.new (o := .lst [V.int 1, V.int 1, V.int 2, V.int 4, V.int 8, V.int 16]) hq) s4).tups B3)
    replace s4 := (Stp.new hq).trans s4
    have e4 := s4 _ _ ng e3
    refine ⟨.ref b, rfl, .ref g, rfl, b, l, .ref g, _, rfl, B4, .lst ng (SqL.of e4) l0 l1 hs, fun H5 v s5 B5 hv => ?_⟩
    obtain ⟨sc, rfl, hsc, hop⟩ := hv
    refine ⟨.ref b, rfl, b, l, 3, rfl, B5, by decide, by decide, fun H6 d s6 B6 _ _ => ⟨rfl, ⟨(by show 6 ≤ sizeLine; decide), fun m hm => ?_⟩⟩⟩
    have el6 := s6 _ _ n3 (s5 _ _ n3 (s4 _ _ n3 el))
    have R6 := (R4.tups (s5.tups B4)).tups (s6.tups B5)
    refine k _ m lot ⟨t0, side, rs, al, sc, decide (d = 0)⟩ ((((s3.trans s4).trans s5).trans s6).trans (Stp.new hm)) (B6.new hm) z3 n3 m3 ⟨as, ?_, (Same.new hm) _ _ el6, R6.tups (Same.tups (Same.new hm))⟩ ⟨hz _ ht0, hside, hrs, lrs, hcl, hal, hsc, hop⟩ rfl
    rw [upd_same, dint]
end

section
variable {P : Program} {w : World} {K : PySem.W.Frag} {mg : Str → Option Value} {base : Heap} {Z : Fs}
/-! ### a piece of a drawn model; what it tells -/
def sp_lpiece (K : PySem.W.Frag) (C : Addr) : Sp := fun vs H Q _ => ∃ (m lot : Addr) (ts : List Str) (M : PM), vs = [.ref m] ∧ ModQ H m lot M ∧ (∀ z ∈ ts, Nm z) ∧ M.Ok ts ∧ ∀ (H' : Hp) (p q : Addr), Same H H' → PieceQ C H' p q M → H p = none → H q = none → Q (.ref p) H'
theorem made_same {H H1 H2 : Hp} {x dx C : Addr} (hx : H x = none) (hd : H dx = none) (s : Stp x (upd (upd H dx (.own x)) x (.ins C dx [])) H2) : Same H H2 := fun a o e => s _ _ (ne_of_none e hx) (by rw [upd_ne (ne_of_none e hx), upd_ne (ne_of_none e hd)]; exact e)
theorem made_same0 {H : Hp} {x dx C : Addr} (hx : H x = none) (hd : H dx = none) : Same H (upd (upd H dx (.own x)) x (.ins C dx [])) := fun a o e => by
  rw [upd_ne (ne_of_none e hx), upd_ne (ne_of_none e hd)]
  exact e
theorem made_free {H : Hp} {x dx C q : Addr} (h : (upd (upd H dx (.own x)) x (.ins C dx [])) q = none) : H q = none := by
  by_cases c : q = x
  · rw [c, upd_same] at h; cases h
  · rw [upd_ne c] at h
    by_cases c : q = dx
    · rw [c, upd_same] at h; cases h
    · rw [upd_ne c] at h
      exact h
theorem ok_law_piece (T : Txt K w mg Z) : FnOk P w K mg base CX0 9 Z.a_law_piece Z.d_law_piece ["_law_model"] (sp_lpiece K Z.C_Piece) := by
  have G_Piece___init__ : FnOk P w K mg base CX0 7 Z.a_Piece___init__ Z.d_Piece___init__ ["self", "name", "part", "rows", "alignment", "scope", "keep"] (sp_init K Z.C_Piece) := ok_Piece_init T
  refine T.F_law_piece.ok sc_law_piece (fun vs H Q E h => ?_) (fun cdv A outer s H vs Q E hr h => ?_)
  · obtain ⟨m, lot, ts, M, rfl, _⟩ := h
    rfl
  · obtain ⟨m, lot, ts, M, rfl, ⟨as, em, el, R⟩, hz, ok, k⟩ := h
    refine ⟨_, (pss_one (ps_ret (pe_makeK T.mk_Piece G_Piece___init__ (hr.mono (by omega)) (by rfl) T.m_Piece (Classical.choose_spec T.d_Piece___init___4_alignment_scope_keep) pass0 (pa_cons (pe_ix ix_tup (pv 0) pe_int (fun _ _ => rfl)) (pa_cons (pe_ix ix_tup (pv 0) pe_int (fun _ _ => rfl)) (pa_cons (pe_callTy call_list_of (by rfl) T.n_list boot_list (pa_cons (pe_ix ix_tup (pv 0) pe_int (fun _ _ => rfl)) pa_nil)) pa_nil))) (pk_cons (pe_ix ix_tup (pv 0) pe_int (fun _ _ => rfl)) (pk_cons (pe_ix ix_tup (pv 0) pe_int (fun _ _ => rfl)) (pk_cons (pe_ix ix_tup (pv 0) pe_int (fun _ _ => rfl)) pk_nil)))))), ?_⟩
    have ST := SqT.of (K := K) em
    refine ⟨.ref m, rfl, m, _, 0, _, rfl, rfl, ST, rfl, .ref m, rfl, m, _, 1, _, rfl, rfl, ST, rfl, .ref m, rfl, m, _, 2, _, rfl, rfl, ST, rfl, lot, _, rfl, .inl (SqL.of el), fun g hg => ?_⟩
    have s1 : Same H (upd H g (.lst (as.map V.ref))) := Same.new hg
    have e1 : (upd H g (.lst (as.map V.ref))) g = some (.lst (as.map V.ref)) := upd_same
    generalize upd H g (.lst (as.map V.ref)) = H1 at s1 e1 ⊢
    replace ST := SqT.of (K := K) (s1 _ _ em)
    refine ⟨.ref m, rfl, m, _, 3, _, rfl, rfl, ST, rfl, .ref m, rfl, m, _, 4, _, rfl, rfl, ST, rfl, .ref m, rfl, m, _, 5, _, rfl, rfl, ST, rfl, rfl, rfl, fun x dx hx hd nd => ?_⟩
    have s2 := made_same0 (C := Z.C_Piece) hx hd
    refine ⟨x, g, dx, as, ts, M, rfl, upd_same, hz, ok, .inl (s2.seq (SqL.of e1)), (R.tups (Same.tups s1)).tups (Same.tups s2), ne_of_none e1 hx, fun H3 q s3 hp hq => ⟨rfl, ?_⟩⟩
    exact k H3 x q (s1.trans (made_same (H1 := H1) hx hd s3)) hp (s1.free hx) (s1.free (made_free hq))
/-! ### what a piece tells -/
theorem paired_get {α β : Type} {R : α → β → Prop} : ∀ {xs : List α} {ys : List β}, Paired R xs ys → ∀ {i : Nat} {u : α} {v : β}, xs[i]? = some u → ys[i]? = some v → R u v
  | _, _, .nil, i, u, v, e, _ => by cases e
  | a :: _, b :: _, .cons r _, 0, u, v, e, f => by cases e; cases f; exact r
  | _ :: _, _ :: _, .cons _ t, i + 1, u, v, e, f => paired_get t (i := i) e f
theorem Eqd.of {H : Hp} {a b : Addr} {xs ys : List V} {n : Nat} (h1 : SqL K H a xs) (h2 : SqL K H b ys) (h : Paired (Eqd K H n) xs ys) (hl : xs.length ≤ 100000) : Eqd K H (n + 1) (.ref a) (.ref b) :=
  .inr ⟨a, b, xs, ys, rfl, rfl, .inl ⟨h1, h2⟩, Paired.length h, hl, fun _ _ _ hu hv => paired_get h hu hv⟩
theorem rows_eqd {H : Hp} {as : List Addr} {rs : List (List V)} (h : RowsIn H as rs) : ∀ {bs : List Addr}, RowsIn H bs rs → (∀ xs ∈ rs, ∀ x ∈ xs, flatV x = true) → (∀ xs ∈ rs, xs.length ≤ 100000) → Paired (Eqd K H 1) (as.map V.ref) (bs.map V.ref) := by
  induction h with
  | nil =>
    intro bs g _ _
    cases g
    exact .nil
  | @cons a xs as rs r _ ih =>
    intro bs g hf hl
    cases g with
    | @cons b _ bs _ r' t' =>
      refine .cons (Eqd.tups (SqT.of r) (SqT.of r') (hl xs (List.mem_cons_self ..)) fun x m => Eqd.flat (hf xs (List.mem_cons_self ..) x m)) (ih t' (fun ys m => hf ys (List.mem_cons_of_mem _ m)) fun ys m => hl ys (List.mem_cons_of_mem _ m))
def sp_told (K : PySem.W.Frag) (C : Addr) : Sp := fun vs H Q _ => ∃ (p q m lot : Addr) (ts : List Str) (M : PM), vs = [.ref p, .ref m] ∧ PieceQ C H p q M ∧ ModQ H m lot M ∧ (∀ z ∈ ts, Nm z) ∧ M.Ok ts ∧ ∀ H' : Hp, Same H H' → Q (.bl true) H'
theorem ok_law_told_so (T : Txt K w mg Z) : FnOk P w K mg base CX0 5 Z.a_law_told_so Z.d_law_told_so ["_law_piece_y", "_law_model"] (sp_told K Z.C_Piece) := by
  have G_Piece_rows : FnOk P w K mg base CX0 1 Z.a_Piece_rows Z.d_Piece_rows ["self"] (sp_rows Z.C_Piece) := ok_Piece_rows T
  have G_Piece_is_shared : FnOk P w K mg base CX0 1 Z.a_Piece_is_shared Z.d_Piece_is_shared ["self"] (sp_shared Z.C_Piece) := ok_Piece_shared T
  have G_Piece_is_strong : FnOk P w K mg base CX0 1 Z.a_Piece_is_strong Z.d_Piece_is_strong ["self"] (sp_strong Z.C_Piece) := ok_Piece_strong T
  have G_Piece___len__ : FnOk P w K mg base CX0 1 Z.a_Piece___len__ Z.d_Piece___len__ ["self"] (sp_len Z.C_Piece) := ok_Piece_len T
  have G_Piece___bool__ : FnOk P w K mg base CX0 1 Z.a_Piece___bool__ Z.d_Piece___bool__ ["self"] sp_bool := ok_Piece_bool T
  have G_Piece___repr__ : FnOk P w K mg base CX0 1 Z.a_Piece___repr__ Z.d_Piece___repr__ ["self"] (sp_repr Z.C_Piece) := ok_Piece_repr T
  have G_law_same : FnOk P w K mg base CX0 4 Z.a_law_same Z.d_law_same ["_law_found", "_law_due"] (sp_law_same K 3) := ok_law_same T 3
  refine T.F_law_told_so.ok sc_law_told_so (fun vs H Q E h => ?_) (fun cdv A outer s H vs Q E hr h => ?_)
  · obtain ⟨p, q, m, lot, ts, M, rfl, _⟩ := h
    rfl
  · obtain ⟨p, q, m, lot, ts, M, rfl, PQ, ⟨as, em, el, R⟩, hz, ok, k⟩ := h
    refine ⟨_, (pss_cons (ps_par (i := 2) (j := 3) (by rfl) sc_law_told_so.nd rfl rfl (by decide) rfl rfl (pa_cons (pe_cmpR op_ne (pe_ix ix_tup (pv 1) pe_int (fun _ _ => rfl)) pe_str (nomark _)) (pa_cons (pe_cmpR (op_in_seq : OpR _ _ (rIn K false)) (pe_ix ix_tup (pv 1) pe_int (fun _ _ => rfl)) (pe_lst (pa_cons pe_str (pa_cons pe_str pa_nil))) (by rfl)) pa_nil)) (by rfl))
      (pss_cons (ps_set (i := 4) sc_law_told_so.nd rfl (Or.inl rfl) (pe_op op_add_str (pe_op op_add_str (pe_op op_add_str (pe_op op_add_str (pe_op op_add_str (pe_op op_add_str pe_str (pe_ix ix_tup (pv 1) pe_int (fun _ _ => rfl))) pe_str) (pe_ix ix_tup (pv 1) pe_int (fun _ _ => rfl))) pe_str) (pe_callTy call_str_int (by rfl) T.n_str boot_str (pa_cons (pe_callB call_len (by rfl) T.n_len boot_len (pa_cons (pe_ix ix_tup (pv 1) pe_int (fun _ _ => rfl)) pa_nil)) pa_nil))) pe_str))
      (pss_cons (ps_set (i := 5) sc_law_told_so.nd rfl (Or.inl rfl) (pe_lst (pa_cons (pe_fld (pv 0) rfl) (pa_cons (pe_fld (pv 0) rfl) (pa_cons (pe_meth0 (pv 0) T.cl_Piece T.M_Piece_rows G_Piece_rows (hr.mono (by omega)) T.b_Piece_rows .nil pass0) (pa_cons (pe_fld (pv 0) rfl) (pa_cons (pe_fld (pv 0) rfl) (pa_cons (pe_fld (pv 0) rfl) pa_nil))))))))
      (pss_cons (ps_set (i := 6) sc_law_told_so.nd rfl (Or.inl rfl) (pe_lst (pa_cons (pe_ix ix_tup (pv 1) pe_int (fun _ _ => rfl)) (pa_cons (pe_ix ix_tup (pv 1) pe_int (fun _ _ => rfl)) (pa_cons (pe_callTy call_list_of (by rfl) T.n_list boot_list (pa_cons (pe_ix ix_tup (pv 1) pe_int (fun _ _ => rfl)) pa_nil)) (pa_cons (pe_ix ix_tup (pv 1) pe_int (fun _ _ => rfl)) (pa_cons (pe_ix ix_tup (pv 1) pe_int (fun _ _ => rfl)) (pa_cons (pe_ix ix_tup (pv 1) pe_int (fun _ _ => rfl)) pa_nil))))))))
      (pss_cons (ps_set (i := 5) sc_law_told_so.nd rfl (Or.inl rfl) (pe_op op_cat (pv 5) (pe_lst (pa_cons (pe_meth0 (pv 0) T.cl_Piece T.M_Piece_is_shared G_Piece_is_shared (hr.mono (by omega)) T.b_Piece_is_shared .nil pass0) (pa_cons (pe_meth0 (pv 0) T.cl_Piece T.M_Piece_is_strong G_Piece_is_strong (hr.mono (by omega)) T.b_Piece_is_strong .nil pass0) (pa_cons (pe_callB (call_lenO G_Piece___len__ (hr.mono (by omega)) T.S_Piece___len__ T.b_Piece___len__ pass0) (by rfl) T.n_len boot_len (pa_cons (pv 0) pa_nil)) (pa_cons (pe_callTy (call_boolO G_Piece___bool__ (hr.mono (by omega)) T.S_Piece___bool__ T.b_Piece___bool__ pass0) (by rfl) T.n_bool boot_bool (pa_cons (pv 0) pa_nil)) (pa_cons (pe_callB (call_reprO G_Piece___repr__ (hr.mono (by omega)) T.S_Piece___repr__ T.b_Piece___repr__ pass0) (by rfl) T.n_repr boot_repr (pa_cons (pv 0) pa_nil)) pa_nil))))))))
      (pss_one (ps_ret (pe_call G_law_same (hr.mono (by omega)) (by rfl) T.m_law_same T.F_law_same.kp T.b_law_same .nil pass0 (pa_cons (pv 5) (pa_cons (pe_op op_cat (pv 6) (pe_lst (pa_cons (pv 2) (pa_cons (pv 3) (pa_cons (pe_callB call_len (by rfl) T.n_len boot_len (pa_cons (pe_ix ix_tup (pv 1) pe_int (fun _ _ => rfl)) pa_nil)) (pa_cons pe_bl (pa_cons (pv 4) pa_nil))))))) pa_nil)))))))))), ?_⟩
    have ST := SqT.of (K := K) em
    refine ⟨.ref m, rfl, m, _, 4, _, rfl, rfl, ST, rfl, rfl, .ref m, rfl, m, _, 4, _, rfl, rfl, ST, rfl, (by show 2 ≤ sizeLine; decide), fun p1 h1 => ?_⟩
    have s1 : Same H (upd H p1 (.lst [V.str "export", V.str "open"])) := Same.new h1
    have e1 : (upd H p1 (.lst [V.str "export", V.str "open"])) p1 = some (.lst [V.str "export", V.str "open"]) := upd_same
    generalize upd H p1 (.lst [V.str "export", V.str "open"]) = H1 at s1 e1 ⊢
    refine ⟨p1, _, rfl, .inl (SqL.of e1), rfl, rfl, _, _, rfl, ?_⟩
    replace ST := SqT.of (K := K) (s1 _ _ em)
    obtain ⟨b1, b2, b3, b4, b5, b6⟩ := ok.lab
    have lr : (as.map V.ref).length = M.rows.length := by rw [List.length_map]; exact R.len
    have l2 : ((M.rows.length : Nat) : Int).natAbs.log2 < 1920 := log2I (Nat.le_trans ok.ln (by decide))
    -- the label
    refine ⟨.ref m, rfl, m, _, 1, _, rfl, rfl, ST, rfl, _, _, rfl, rfl, (by rw [← Str.length_append]; exact big (Nat.le_trans b1 (by decide))), _, _, rfl, rfl, (by rw [← Str.length_append]; exact big (Nat.le_trans b2 (by decide))), .ref m, rfl, m, _, 0, _, rfl, rfl, ST, rfl, _, _, rfl, rfl, (by rw [← Str.length_append]; exact big (Nat.le_trans b3 (by decide))), _, _, rfl, rfl, (by rw [← Str.length_append]; exact big (Nat.le_trans b4 (by decide))), ?_⟩
    refine ⟨.ref m, rfl, m, _, 2, _, rfl, rfl, ST, rfl, .ref lot, M.rows.length, rfl, .inl ⟨_, SqL.of (s1 _ _ el), lr.symm⟩, _, rfl, l2, _, _, rfl, rfl, (by rw [← Str.length_append]; exact big (Nat.le_trans b5 (by decide))), _, _, rfl, rfl, (by rw [← Str.length_append]; exact big (Nat.le_trans b6 (by decide))), ?_⟩
    -- told
    have P1 := PQ.same s1
    obtain ⟨dx, ap, hp, hq, Rp⟩ := id P1
    refine ⟨.ref p, rfl, p, _, dx, _, _, rfl, hp, T.cl_Piece, T.n_Piece_name, pf_name, .ref p, rfl, p, _, dx, _, _, rfl, hp, T.cl_Piece, T.n_Piece_part, pf_part, .ref p, rfl, p, dx, _, rfl, hp, pf_no (by decide +kernel), p, q, M, rfl, P1, fun g ag hg Rg => ?_⟩
    have s2 : Same H1 (upd H1 g (.lst (ag.map V.ref))) := Same.new hg
    have e2 : (upd H1 g (.lst (ag.map V.ref))) g = some (.lst (ag.map V.ref)) := upd_same
    generalize upd H1 g (.lst (ag.map V.ref)) = H2 at s2 e2 ⊢
    have hp2 := s2 _ _ hp
    have s12 := s1.trans s2
    have P2 := PQ.same s12
    refine ⟨.ref p, rfl, p, _, dx, _, _, rfl, hp2, T.cl_Piece, T.n_Piece_alignment, pf_al, .ref p, rfl, p, _, dx, _, _, rfl, hp2, T.cl_Piece, T.n_Piece_scope, pf_scope, .ref p, rfl, p, _, dx, _, _, rfl, hp2, T.cl_Piece, T.n_Piece_keep, pf_keep, (by show 6 ≤ sizeLine; decide), fun u hu => ?_⟩
    have s3 : Same H2 (upd H2 u (.lst [V.str M.name, V.str M.part, V.ref g, V.int M.al, V.str M.scope, V.bl M.keep])) := Same.new hu
    have e3 : (upd H2 u (.lst [V.str M.name, V.str M.part, V.ref g, V.int M.al, V.str M.scope, V.bl M.keep])) u = some (.lst [V.str M.name, V.str M.part, V.ref g, V.int M.al, V.str M.scope, V.bl M.keep]) := upd_same
    generalize upd H2 u (.lst [V.str M.name, V.str M.part, V.ref g, V.int M.al, V.str M.scope, V.bl M.keep]) = H3 at s3 e3 ⊢
    have s13 := s12.trans s3
    replace ST := SqT.of (K := K) (s13 _ _ em)
    -- due
    refine ⟨.ref m, rfl, m, _, 0, _, rfl, rfl, ST, rfl, .ref m, rfl, m, _, 1, _, rfl, rfl, ST, rfl, .ref m, rfl, m, _, 2, _, rfl, rfl, ST, rfl, lot, _, rfl, .inl (SqL.of (s13 _ _ el)), fun d hd => ?_⟩
    have s4 : Same H3 (upd H3 d (.lst (as.map V.ref))) := Same.new hd
    have e4 : (upd H3 d (.lst (as.map V.ref))) d = some (.lst (as.map V.ref)) := upd_same
    generalize upd H3 d (.lst (as.map V.ref)) = H4 at s4 e4 ⊢
    have s14 := s13.trans s4
    replace ST := SqT.of (K := K) (s14 _ _ em)
    refine ⟨.ref m, rfl, m, _, 3, _, rfl, rfl, ST, rfl, .ref m, rfl, m, _, 4, _, rfl, rfl, ST, rfl, .ref m, rfl, m, _, 5, _, rfl, rfl, ST, rfl, (by show 6 ≤ sizeLine; decide), fun y hy => ?_⟩
    have s5 : Same H4 (upd H4 y (.lst [V.str M.name, V.str M.part, V.ref d, V.int M.al, V.str M.scope, V.bl M.keep])) := Same.new hy
    have e5 : (upd H4 y (.lst [V.str M.name, V.str M.part, V.ref d, V.int M.al, V.str M.scope, V.bl M.keep])) y = some (.lst [V.str M.name, V.str M.part, V.ref d, V.int M.al, V.str M.scope, V.bl M.keep]) := upd_same
    generalize upd H4 y (.lst [V.str M.name, V.str M.part, V.ref d, V.int M.al, V.str M.scope, V.bl M.keep]) = H5 at s5 e5 ⊢
    have s15 := s14.trans s5
    have P5 := PQ.same s15
    obtain ⟨dx5, ap5, hp5, hq5, Rp5⟩ := id P5
    have e3' := s5 _ _ (s4 _ _ e3)
    -- told, longer
    refine ⟨.ref u, rfl, .ref p, rfl, p, dx5, _, rfl, hp5, pf_no (by decide +kernel), p, q, M, rfl, P5, ?_⟩
    refine ⟨.ref p, rfl, p, dx5, _, rfl, hp5, pf_no (by decide +kernel), p, q, M, rfl, P5, ?_⟩
    refine ⟨.ref p, rfl, p, dx5, _, rfl, hp5, p, q, M, rfl, P5, _, rfl, Int.natCast_nonneg _, ?_, ?_⟩
    · have := ok.ln
      omega
    refine ⟨.ref p, rfl, p, dx5, _, rfl, hp5, p, rfl, true, rfl, ?_⟩
    refine ⟨.ref p, rfl, p, dx5, _, rfl, hp5, p, q, M, ts, rfl, P5, ok, _, rfl, (by show 5 ≤ sizeLine; decide), fun a ha => ?_⟩
    have s6 : Same H5 (upd H5 a (.lst [V.bl (!decide (M.scope = "local")), V.bl (inV (.str M.scope) strongL), V.int (M.rows.length : Nat), V.bl true, V.str (pmLab M)])) := Same.new ha
    have e6 : (upd H5 a (.lst [V.bl (!decide (M.scope = "local")), V.bl (inV (.str M.scope) strongL), V.int (M.rows.length : Nat), V.bl true, V.str (pmLab M)])) a = some (.lst [V.bl (!decide (M.scope = "local")), V.bl (inV (.str M.scope) strongL), V.int (M.rows.length : Nat), V.bl true, V.str (pmLab M)]) := upd_same
    generalize upd H5 a (.lst [V.bl (!decide (M.scope = "local")), V.bl (inV (.str M.scope) strongL), V.int (M.rows.length : Nat), V.bl true, V.str (pmLab M)]) = H6 at s6 e6 ⊢
    have s16 := s15.trans s6
    refine ⟨u, a, _, _, rfl, rfl, s6 _ _ e3', e6, (by show 11 ≤ sizeLine; decide), fun a2 ha2 => ?_⟩
    have s7 : Same H6 (upd H6 a2 (.lst ([V.str M.name, V.str M.part, V.ref g, V.int M.al, V.str M.scope, V.bl M.keep] ++ [V.bl (!decide (M.scope = "local")), V.bl (inV (.str M.scope) strongL), V.int (M.rows.length : Nat), V.bl true, V.str (pmLab M)]))) := Same.new ha2
    have e7 : (upd H6 a2 (.lst ([V.str M.name, V.str M.part, V.ref g, V.int M.al, V.str M.scope, V.bl M.keep] ++ [V.bl (!decide (M.scope = "local")), V.bl (inV (.str M.scope) strongL), V.int (M.rows.length : Nat), V.bl true, V.str (pmLab M)]))) a2 = some (.lst ([V.str M.name, V.str M.part, V.ref g, V.int M.al, V.str M.scope, V.bl M.keep] ++ [V.bl (!decide (M.scope = "local")), V.bl (inV (.str M.scope) strongL), V.int (M.rows.length : Nat), V.bl true, V.str (pmLab M)])) := upd_same
    generalize upd H6 a2 (.lst ([V.str M.name, V.str M.part, V.ref g, V.int M.al, V.str M.scope, V.bl M.keep] ++ [V.bl (!decide (M.scope = "local")), V.bl (inV (.str M.scope) strongL), V.int (M.rows.length : Nat), V.bl true, V.str (pmLab M)])) = H7 at s7 e7 ⊢
    have s17 := s16.trans s7
    replace ST := SqT.of (K := K) (s17 _ _ em)
    refine ⟨.ref a2, rfl, .ref y, rfl, _, rfl, _, rfl, .ref m, rfl, m, _, 2, _, rfl, rfl, ST, rfl, .ref lot, M.rows.length, rfl, .inl ⟨_, SqL.of (s17 _ _ el), lr.symm⟩, _, rfl, (by show 5 ≤ sizeLine; decide), fun a3 ha3 => ?_⟩
    have s8 := Same.new ha3 (o := .lst [V.bl (!decide (V.str M.scope = V.str "local")), V.bl (inV (.str M.scope) strongL), V.int (M.rows.length : Nat), V.bl true, V.str (pmLab M)])
    refine ⟨y, a3, _, _, rfl, rfl, s8 _ _ (s7 _ _ (s6 _ _ e5)), upd_same, (by show 11 ≤ sizeLine; decide), fun a4 ha4 => ?_⟩
    have s9 := s8.trans (Same.new ha4 (o := .lst ([V.str M.name, V.str M.part, V.ref d, V.int M.al, V.str M.scope, V.bl M.keep] ++ [V.bl (!decide (V.str M.scope = V.str "local")), V.bl (inV (.str M.scope) strongL), V.int (M.rows.length : Nat), V.bl true, V.str (pmLab M)])))
    have ff : ∀ xs ∈ M.rows, ∀ x ∈ xs, flatV x = true := fun xs m x n => ((ok.rw xs m).okF hz x n).1
    have fl : ∀ xs ∈ M.rows, xs.length ≤ 100000 := fun xs m => Nat.le_trans ((ok.rw xs m).rwy.ok (K := default) (H := fun _ => none) (b := (0 : Nat)) hz).2.2 (by decide)
    have t37 := ((s3.trans s4).trans s5).trans (s6.trans s7)
    have rowsE : Eqd K _ 2 (.ref g) (.ref d) := Eqd.of (SqL.of (s9 _ _ (t37 _ _ e2))) (SqL.of (s9 _ _ (s7 _ _ (s6 _ _ (s5 _ _ e4))))) (rows_eqd (Rg.tups (Same.tups ((s2.trans t37).trans s9))) (R.tups (Same.tups (s17.trans s9))) ff fl) (by rw [List.length_map, Rg.len]; exact Nat.le_trans ok.ln (by decide))
    refine ⟨.ref a2, .ref a4, rfl, Eqd.of (SqL.of (s9 _ _ e7)) (SqL.of upd_same) ?_ (by show 11 ≤ 100000; decide), fun H' s' => k _ ((s17.trans s9).trans s')⟩
    rw [dstr] at rowsE ⊢
    exact .cons (.flat rfl) (.cons (.flat rfl) (.cons rowsE (.cons (.flat rfl) (.cons (.flat rfl) (.cons (.flat rfl) (.cons (.flat rfl) (.cons (.flat rfl) (.cons (.flat rfl) (.cons (.flat rfl) (.cons (.flat rfl) .nil))))))))))
end

section
variable {P : Program} {w : World} {K : PySem.W.Frag} {mg : Str → Option Value} {base : Heap} {Z : Fs}
/-! ### the other models: each unlike the first -/
theorem eqvAll_len : ∀ {xs ys : List PyData}, xs.length ≠ ys.length → PyData.eqvAll xs ys = false
  | [], [], h => absurd rfl h
  | [], _ :: _, _ => by simp [PyData.eqvAll]
  | _ :: _, [], _ => by simp [PyData.eqvAll]
  | x :: xs, y :: ys, h => by
    have q := eqvAll_len (xs := xs) (ys := ys) (by simpa using h)
    simp [PyData.eqvAll, q]
theorem eqvAll_last {x y : PyData} (h : PyData.eqv x y = false) : ∀ r : List PyData, PyData.eqvAll (r ++ [x]) (r ++ [y]) = false
  | [] => by simp [PyData.eqvAll, h]
  | z :: r => by
    have q := eqvAll_last h r
    rw [List.cons_append, List.cons_append]
    simp [PyData.eqvAll, q]
theorem datR_len {xs ys : List (List V)} (h : xs.length ≠ ys.length) : PyData.eqv (datR xs) (datR ys) = false := by
  unfold datR
  simp only [PyData.eqv]
  exact eqvAll_len (by simpa using h)
theorem datR_last {r : List (List V)} {x y : List V} (h : PyData.eqv (.tuple (x.map toD)) (.tuple (y.map toD)) = false) : PyData.eqv (datR (r ++ [x])) (datR (r ++ [y])) = false := by
  unfold datR
  simp only [PyData.eqv, List.map_append, List.map_cons, List.map_nil]
  exact eqvAll_last h _
theorem pm_name {M N : PM} (h : M.name ≠ N.name) : pmEq M N = false := by simp [pmEq, h]
theorem pm_al {M N : PM} (h : M.al ≠ N.al) : pmEq M N = false := by simp [pmEq, h]
theorem pm_scope {M N : PM} (h : M.scope ≠ N.scope) : pmEq M N = false := by simp [pmEq, h]
theorem pm_keep {M N : PM} (h : M.keep ≠ N.keep) : pmEq M N = false := by simp [pmEq, h]
theorem pm_rows {M N : PM} (h : PyData.eqv (datR M.rows) (datR N.rows) = false) : pmEq M N = false := by simp [pmEq, h]
def OkO (f : Addr) (ts : List Str) (M : PM) (H : Hp) (v : V) : Prop := ∃ mi lot Mi, v = .ref mi ∧ ModQ H mi lot Mi ∧ lot ≠ f ∧ Mi.Ok ts ∧ pmEq Mi M = false ∧ pmEq M Mi = false
theorem OkO.same {f : Addr} {ts : List Str} {M : PM} {H H' : Hp} {v : V} (s : Same H H') (h : OkO f ts M H v) : OkO f ts M H' v := by
  obtain ⟨mi, lot, Mi, e, q, r⟩ := h
  exact ⟨mi, lot, Mi, e, q.same s, r⟩
def OthL (ts : List Str) (M : PM) (H : Hp) (f : Addr) (vs : List V) : Prop := H f = some (.lst vs) ∧ ∀ v ∈ vs, OkO f ts M H v
theorem OthL.same {ts : List Str} {M : PM} {H H' : Hp} {f : Addr} {vs : List V} (s : Same H H') (h : OthL ts M H f vs) : OthL ts M H' f vs := ⟨s _ _ h.1, fun v m => (h.2 v m).same s⟩
theorem OthL.add {ts : List Str} {M : PM} {H : Hp} {f : Addr} {vs : List V} {v : V} (h : OthL ts M H f vs) (hv : OkO f ts M H v) : OthL ts M (upd H f (.lst (vs ++ [v]))) f (vs ++ [v]) := by
  have key : ∀ u, OkO f ts M H u → OkO f ts M (upd H f (.lst (vs ++ [v]))) u := by
    rintro u ⟨mi, lot, Mi, e, q, n, r⟩
    exact ⟨mi, lot, Mi, e, q.put h.1 n, n, r⟩
  exact ⟨upd_same, fun u m => (List.mem_append.mp m).elim (fun m => key u (h.2 u m)) fun m => by rw [List.mem_singleton.mp m]; exact key v hv⟩
def OthMid (H0 : Hp) (ts : List Str) (M : PM) (b m t lot : Addr) (n : Nat) : L2.St → Hp → Prop := fun σ H' => ∃ (f : Addr) (vs : List V), σ = [some (.ref b), some (.ref m), some (.ref t), some (.str M.name), some (.str M.part), some (.ref lot), some (.int M.al), some (.str M.scope), some (.bl M.keep), some (.ref f)] ∧ Same H0 H' ∧ H0 f = none ∧ OthL ts M H' f vs ∧ vs.length ≤ n
theorem OthMid.add {H0 H1 : Hp} {ts : List Str} {M : PM} {b m t lot f : Addr} {n : Nat} {vs : List V} {v : V} (s : Same H0 H1) (hf : H0 f = none) (h : OthL ts M H1 f vs) (hn : vs.length ≤ n) (hv : OkO f ts M H1 v) :
    OthMid H0 ts M b m t lot (n + 1) [some (.ref b), some (.ref m), some (.ref t), some (.str M.name), some (.str M.part), some (.ref lot), some (.int M.al), some (.str M.scope), some (.bl M.keep), some (.ref f)] (upd H1 f (.lst (vs ++ [v]))) :=
  ⟨f, _, rfl, Same.put s hf, hf, h.add hv, by rw [List.length_append]; exact Nat.succ_le_succ hn⟩
theorem OthMid.up {H0 H1 : Hp} {ts : List Str} {M : PM} {b m t lot : Addr} {n : Nat} {σ : L2.St} (h : OthMid H0 ts M b m t lot n σ H1) : OthMid H0 ts M b m t lot (n + 1) σ H1 := by
  obtain ⟨f, vs, e, s, z, o, l⟩ := h
  exact ⟨f, vs, e, s, z, o, Nat.le_succ_of_le l⟩
theorem RowsIn.snoc {H : Hp} : ∀ {r : List (List V)} {as : List Addr} {xs : List V}, RowsIn H as (r ++ [xs]) → ∃ ar a, as = ar ++ [a] ∧ RowsIn H ar r ∧ H a = some (.tup xs)
  | [], _, _, .cons e .nil => ⟨[], _, rfl, .nil, e⟩
  | _ :: r, _, _, .cons e t => by
    obtain ⟨ar, a, rfl, h1, h2⟩ := RowsIn.snoc (r := r) t
    exact ⟨_ :: ar, a, rfl, .cons e h1, h2⟩
theorem alt_row {ts : List Str} {xs : List V} (h : CRow ts xs) (c : inV (hd0 xs) closL = true) :
    (PyData.eqv (.tuple (xs.map toD)) (.tuple [.str "back"]) = false ∧ PyData.eqv (.tuple [.str "back"]) (.tuple (xs.map toD)) = false) ∨ (PyData.eqv (.tuple (xs.map toD)) (.tuple [.str "back"]) = true ∧ PyData.eqv (.tuple (xs.map toD)) (.tuple [.str "halt"]) = false ∧ PyData.eqv (.tuple [.str "halt"]) (.tuple (xs.map toD)) = false) := by
  have hb : (("halt" : Str) == ("back" : Str)) = false := by decide +kernel
  have hb' : (("back" : Str) == ("halt" : Str)) = false := by decide +kernel
  cases h with
  | jump ht => exact .inl ⟨by simp [toD, PyData.eqv, PyData.eqvAll], by simp [toD, PyData.eqv, PyData.eqvAll]⟩
  | halt => exact .inl ⟨by simp [toD, PyData.eqv, PyData.eqvAll, hb], by simp [toD, PyData.eqv, PyData.eqvAll, hb']⟩
  | back => exact .inr ⟨by simp [toD, PyData.eqv, PyData.eqvAll], by simp [toD, PyData.eqv, PyData.eqvAll, hb'], by simp [toD, PyData.eqv, PyData.eqvAll, hb]⟩
  | _ => exact absurd (show inV (.str _) closL = true from c) (by decide +kernel)
def sp_others : Sp := fun vs H Q _ => ∃ (b m t lot : Addr) (z0 z1 : Str) (zr : List Str) (M : PM), vs = [.ref b, .ref m, .ref t] ∧ H t = some (.lst ((z0 :: z1 :: zr).map V.str)) ∧ z0 ≠ z1 ∧ (∀ z ∈ z0 :: z1 :: zr, Nm z) ∧ ModQ H m lot M ∧ M.Ok (z0 :: z1 :: zr) ∧
  ∀ (H' : Hp) (f : Addr) (vs : List V), Same H H' → H f = none → OthL (z0 :: z1 :: zr) M H' f vs → vs.length ≤ 10 → Q (.ref f) H'
theorem cutV_to {xs : List V} {k : Nat} : cutV xs none (some (k : Int)) = xs.take k := by
  unfold cutV
  rw [HT.sIx_none, HT.sIx_nat, List.drop_zero, Nat.sub_zero]
  by_cases h : k ≤ xs.length
  · rw [Nat.min_eq_left h]
  · rw [Nat.min_eq_right (by omega), List.take_length, List.take_of_length_le (by omega)]
theorem ok_law_others (T : Txt K w mg Z) : FnOk P w K mg base CX0 1 Z.a_law_others Z.d_law_others ["_law_bag_here", "_law_model", "_law_titles_here"] sp_others := by
  refine T.F_law_others.ok sc_law_others (fun vs H Q E h => ?_) (fun cdv A outer s H vs Q E hr h => ?_)
  · obtain ⟨b, m, t, lot, z0, z1, zr, M, rfl, _⟩ := h
    rfl
  · obtain ⟨b, m, t, lot, z0, z1, zr, M, rfl, et, hne, hz, ⟨as, em, el, R⟩, ok, k⟩ := h
    refine ⟨_, (pss_cons (ps_asg (pv 1) (pg_tup (by rfl) (pgs_cons (pg_name (i := 3) sc_law_others.nd rfl (Or.inl rfl)) (pgs_cons (pg_name (i := 4) sc_law_others.nd rfl (Or.inl rfl)) (pgs_cons (pg_name (i := 5) sc_law_others.nd rfl (Or.inl rfl)) (pgs_cons (pg_name (i := 6) sc_law_others.nd rfl (Or.inl rfl)) (pgs_cons (pg_name (i := 7) sc_law_others.nd rfl (Or.inl rfl)) (pgs_cons (pg_name (i := 8) sc_law_others.nd rfl (Or.inl rfl)) pgs_nil))))))))
      (C8.pss_cut (ps_set (i := 9) sc_law_others.nd rfl (Or.inl rfl) (pe_lst (pa_cons (pe_tup (pa_cons (pe_ifExp (pt_cmpR op_eq (pv 3) (pe_ix ix_list (pv 2) pe_int (fun _ _ => rfl)) (nomark _)) (pe_ix ix_list (pv 2) pe_int (fun _ _ => rfl)) (pe_ix ix_list (pv 2) pe_int (fun _ _ => rfl))) (pa_cons (pv 4) (pa_cons (pv 5) (pa_cons (pv 6) (pa_cons (pv 7) (pa_cons (pv 8) pa_nil))))))) pa_nil)))
      (C8.pss_cut (ps_expr (pe_bm PySem.F.plainAttrs_list PySem.F.slot_list_append PySem.F.type_list_append mt_append (pv 9) (pa_cons (pe_tup (pa_cons (pv 3) (pa_cons (pv 4) (pa_cons (pv 5) (pa_cons (pe_ifExp (pt_cmpR op_ne (pv 6) pe_int (nomark _)) pe_int pe_int) (pa_cons (pv 7) (pa_cons (pv 8) pa_nil))))))) pa_nil)))
      (C8.pss_cut (ps_expr (pe_bm PySem.F.plainAttrs_list PySem.F.slot_list_append PySem.F.type_list_append mt_append (pv 9) (pa_cons (pe_tup (pa_cons (pv 3) (pa_cons (pv 4) (pa_cons (pv 5) (pa_cons (pv 6) (pa_cons (pe_ifExp (pt_cmpR op_ne (pv 7) pe_str (nomark _)) pe_str pe_str) (pa_cons (pv 8) pa_nil))))))) pa_nil)))
      (C8.pss_cut (ps_expr (pe_bm PySem.F.plainAttrs_list PySem.F.slot_list_append PySem.F.type_list_append mt_append (pv 9) (pa_cons (pe_tup (pa_cons (pv 3) (pa_cons (pv 4) (pa_cons (pv 5) (pa_cons (pv 6) (pa_cons (pv 7) (pa_cons (pe_not (pv 8)) pa_nil))))))) pa_nil)))
      (C8.pss_cut (ps_if (pt_cmpR op_lt (pe_callB call_len (by rfl) T.n_len boot_len (pa_cons (pv 5) pa_nil)) pe_int (nomark _)) (pss_one (ps_expr (pe_bm PySem.F.plainAttrs_list PySem.F.slot_list_append PySem.F.type_list_append mt_append (pv 9) (pa_cons (pe_tup (pa_cons (pv 3) (pa_cons (pv 4) (pa_cons (pe_op op_cat (pe_lst (pa_cons (pe_tup (pa_cons pe_str (pa_cons pe_int pa_nil))) pa_nil)) (pv 5)) (pa_cons (pv 6) (pa_cons (pv 7) (pa_cons (pv 8) pa_nil))))))) pa_nil)))) pss_nil)
      (C8.pss_cut (ps_if (pt_cmpR op_eq (pv 4) pe_str (nomark _)) (pss_one (ps_expr (pe_bm PySem.F.plainAttrs_list PySem.F.slot_list_append PySem.F.type_list_append mt_append (pv 9) (pa_cons (pe_tup (pa_cons (pv 3) (pa_cons (pv 4) (pa_cons (pe_op op_cat (pe_slice sl_list (pv 5) po_none (po_some (pe_op op_sub (pe_callB call_len (by rfl) T.n_len boot_len (pa_cons (pv 5) pa_nil)) pe_int))) (pe_lst (pa_cons (pe_ifExp (pt_cmpR (op_neD hr.units) (pe_ix ix_list (pv 5) (pe_un un_neg pe_int) (fun _ _ => rfl)) (pe_tup (pa_cons pe_str pa_nil)) (nomark _)) (pe_tup (pa_cons pe_str pa_nil)) (pe_tup (pa_cons pe_str pa_nil))) pa_nil))) (pa_cons (pv 6) (pa_cons (pv 7) (pa_cons (pv 8) pa_nil))))))) pa_nil)))) (pss_one (ps_if (pt_cmpR op_lt (pe_callB call_len (by rfl) T.n_len boot_len (pa_cons (pv 5) pa_nil)) pe_int (nomark _)) (pss_one (ps_expr (pe_bm PySem.F.plainAttrs_list PySem.F.slot_list_append PySem.F.type_list_append mt_append (pv 9) (pa_cons (pe_tup (pa_cons (pv 3) (pa_cons (pv 4) (pa_cons (pe_op op_cat (pv 5) (pe_lst (pa_cons (pe_tup (pa_cons pe_str (pa_cons pe_int pa_nil))) pa_nil))) (pa_cons (pv 6) (pa_cons (pv 7) (pa_cons (pv 8) pa_nil))))))) pa_nil)))) pss_nil)))
      (pss_one (ps_ret (pv 9)))))))))), ?_⟩
    refine ⟨.ref m, rfl, m, _, rfl, SqT.of em, rfl, .str M.name, _, rfl, .str M.part, _, rfl, .ref lot, _, rfl, .int M.al, _, rfl, .str M.scope, _, rfl, .bl M.keep, _, rfl, rfl, ?_⟩
    generalize hts : z0 :: z1 :: zr = ts at hz ok k et
    have a8 : (8 : Int) ∈ ([1, 2, 4, 8, 16] : List Int) := by decide
    have a16 : (16 : Int) ∈ ([1, 2, 4, 8, 16] : List Int) := by decide
    have sL : ("local" : Str) ∈ (["local", "export", "open", "weak"] : List Str) := by decide +kernel
    have sW : ("weak" : Str) ∈ (["local", "export", "open", "weak"] : List Str) := by decide +kernel
    have nL : ("local" : Str) ≠ "open" := by decide +kernel
    have nW : ("weak" : Str) ≠ "open" := by decide +kernel
    -- a model with the same rows
    have same : ∀ (Mi : PM) (H1 : Hp) (q f : Addr), Mi.rows = M.rows → Mi.Ok ts → pmEq Mi M = false → pmEq M Mi = false → Same H H1 → H f = none → H1 q = some (.tup [.str Mi.name, .str Mi.part, .ref lot, .int Mi.al, .str Mi.scope, .bl Mi.keep]) → OkO f ts M H1 (.ref q) := fun Mi H1 q f hr ok' e1 e2 s hf eq => ⟨q, lot, Mi, rfl, ⟨as, eq, s _ _ el, by rw [hr]; exact R.tups (Same.tups s)⟩, ne_of_none el hf, ok', e1, e2⟩
    refine ⟨OthMid H ts M b m t lot 1, ?_, ?_⟩
    · subst hts
      refine ⟨.str M.name, rfl, .ref t, rfl, t, _, 0, .str z0, rfl, rfl, SqL.of et, atI_nat (j := 0) rfl, rfl, _, rfl, ?_⟩
      have fin : ∀ (z : Str) (q f : Addr) (hq : H q = none) (hf : (upd H q (.tup [.str z, .str M.part, .ref lot, .int M.al, .str M.scope, .bl M.keep])) f = none), z ∈ z0 :: z1 :: zr → z ≠ M.name → OthMid H (z0 :: z1 :: zr) M b m t lot 1 [some (.ref b), some (.ref m), some (.ref t), some (.str M.name), some (.str M.part), some (.ref lot), some (.int M.al), some (.str M.scope), some (.bl M.keep), some (.ref f)] (upd (upd H q (.tup [.str z, .str M.part, .ref lot, .int M.al, .str M.scope, .bl M.keep])) f (.lst [.ref q])) := fun z q f hq hf mz nz => by
        have s1 : Same H _ := Same.new (o := .tup [.str z, .str M.part, .ref lot, .int M.al, .str M.scope, .bl M.keep]) hq
        have f0 := s1.free hf
        have s2 := s1.trans (Same.new (o := .lst [.ref q]) hf)
        exact ⟨f, [.ref q], rfl, s2, f0, ⟨upd_same, mem1 (same { M with name := z } _ q f rfl { ok with nm := hz _ mz } (pm_name nz) (pm_name nz.symm) s2 f0 ((Same.new hf) _ _ upd_same))⟩, Nat.le_refl _⟩
      by_cases c : M.name = z0
      · refine iteY (by rw [c]) ?_
        refine ⟨.ref t, rfl, t, _, 1, .str z1, rfl, rfl, SqL.of et, atI_nat (j := 1) rfl, .str M.part, rfl, .ref lot, rfl, .int M.al, rfl, .str M.scope, rfl, .bl M.keep, rfl, (by show 6 ≤ sizeLine; decide), fun q hq => ⟨(by show 1 ≤ sizeLine; decide), fun f hf => fin z1 q f hq hf (by simp) (by rw [c]; exact hne.symm)⟩⟩
      · refine iteN (fun z => c (V.str.inj z)) ?_
        refine ⟨.ref t, rfl, t, _, 0, .str z0, rfl, rfl, SqL.of et, atI_nat (j := 0) rfl, .str M.part, rfl, .ref lot, rfl, .int M.al, rfl, .str M.scope, rfl, .bl M.keep, rfl, (by show 6 ≤ sizeLine; decide), fun q hq => ⟨(by show 1 ≤ sizeLine; decide), fun f hf => fin z0 q f hq hf (by simp) (fun e => c e.symm)⟩⟩
    clear hts
    rintro σ H1 ⟨f, vs, rfl, s1, f0, O1, n1⟩
    refine ⟨OthMid H ts M b m t lot 2, ?_, ?_⟩
    · refine ⟨.ref f, rfl, .inl ⟨rfl, _, SqL.of O1.1⟩, .str M.name, rfl, .str M.part, rfl, .ref lot, rfl, .int M.al, rfl, rfl, _, rfl, ?_⟩
      show if (!decide (V.int M.al = V.int 16)) = true then _ else _
      rw [dint]
      have n9 : vs.length < sizeLine := Nat.lt_of_le_of_lt n1 (by decide)
      by_cases c : M.al = 16
      · rw [decide_eq_true c]
        refine iteF ⟨.str M.scope, rfl, .bl M.keep, rfl, (by show 6 ≤ sizeLine; decide), fun q hq => ?_⟩
        have s2 := Same.new (o := .tup [.str M.name, .str M.part, .ref lot, .int 8, .str M.scope, .bl M.keep]) hq
        exact ⟨f, _, _, rfl, rfl, s2 _ _ O1.1, n9, OthMid.add (s1.trans s2) f0 (O1.same s2) n1 (same { M with al := 8 } _ q f rfl { ok with al := a8 } (pm_al (show (8 : Int) ≠ M.al by rw [c]; decide)) (pm_al (show M.al ≠ (8 : Int) by rw [c]; decide)) (s1.trans s2) f0 upd_same)⟩
      · rw [decide_eq_false c]
        refine iteT ⟨.str M.scope, rfl, .bl M.keep, rfl, (by show 6 ≤ sizeLine; decide), fun q hq => ?_⟩
        have s2 := Same.new (o := .tup [.str M.name, .str M.part, .ref lot, .int 16, .str M.scope, .bl M.keep]) hq
        exact ⟨f, _, _, rfl, rfl, s2 _ _ O1.1, n9, OthMid.add (s1.trans s2) f0 (O1.same s2) n1 (same { M with al := 16 } _ q f rfl { ok with al := a16 } (pm_al (fun e => c e.symm)) (pm_al c) (s1.trans s2) f0 upd_same)⟩
    clear s1 f0 O1 n1
    rintro σ H1 ⟨f, vs, rfl, s1, f0, O1, n1⟩
    refine ⟨OthMid H ts M b m t lot 3, ?_, ?_⟩
    · refine ⟨.ref f, rfl, .inl ⟨rfl, _, SqL.of O1.1⟩, .str M.name, rfl, .str M.part, rfl, .ref lot, rfl, .int M.al, rfl, .str M.scope, rfl, rfl, _, rfl, ?_⟩
      show if (!decide (V.str M.scope = V.str "weak")) = true then _ else _
      rw [dstr]
      have n9 : vs.length < sizeLine := Nat.lt_of_le_of_lt n1 (by decide)
      by_cases c : M.scope = "weak"
      · rw [decide_eq_true c]
        refine iteF ⟨.bl M.keep, rfl, (by show 6 ≤ sizeLine; decide), fun q hq => ?_⟩
        have s2 := Same.new (o := .tup [.str M.name, .str M.part, .ref lot, .int M.al, .str "local", .bl M.keep]) hq
        exact ⟨f, _, _, rfl, rfl, s2 _ _ O1.1, n9, OthMid.add (s1.trans s2) f0 (O1.same s2) n1 (same { M with scope := "local" } _ q f rfl { ok with sc := sL, op := fun _ => nL } (pm_scope (show ("local" : Str) ≠ M.scope by rw [c]; decide +kernel)) (pm_scope (show M.scope ≠ ("local" : Str) by rw [c]; decide +kernel)) (s1.trans s2) f0 upd_same)⟩
      · rw [decide_eq_false c]
        refine iteT ⟨.bl M.keep, rfl, (by show 6 ≤ sizeLine; decide), fun q hq => ?_⟩
        have s2 := Same.new (o := .tup [.str M.name, .str M.part, .ref lot, .int M.al, .str "weak", .bl M.keep]) hq
        exact ⟨f, _, _, rfl, rfl, s2 _ _ O1.1, n9, OthMid.add (s1.trans s2) f0 (O1.same s2) n1 (same { M with scope := "weak" } _ q f rfl { ok with sc := sW, op := fun _ => nW } (pm_scope (fun e => c e.symm)) (pm_scope c) (s1.trans s2) f0 upd_same)⟩
    clear s1 f0 O1 n1
    rintro σ H1 ⟨f, vs, rfl, s1, f0, O1, n1⟩
    refine ⟨OthMid H ts M b m t lot 4, ?_, ?_⟩
    · have n9 : vs.length < sizeLine := Nat.lt_of_le_of_lt n1 (by decide)
      refine ⟨.ref f, rfl, .inl ⟨rfl, _, SqL.of O1.1⟩, .str M.name, rfl, .str M.part, rfl, .ref lot, rfl, .int M.al, rfl, .str M.scope, rfl, .bl M.keep, rfl, _, rfl, (by show 6 ≤ sizeLine; decide), fun q hq => ?_⟩
      have s2 := Same.new (o := .tup [.str M.name, .str M.part, .ref lot, .int M.al, .str M.scope, .bl (!M.keep)]) hq
      exact ⟨f, _, _, rfl, rfl, s2 _ _ O1.1, n9, OthMid.add (s1.trans s2) f0 (O1.same s2) n1 (same { M with keep := !M.keep } _ q f rfl { ok with } (pm_keep (show (!M.keep) ≠ M.keep by cases M.keep <;> decide)) (pm_keep (show M.keep ≠ (!M.keep) by cases M.keep <;> decide)) (s1.trans s2) f0 upd_same)⟩
    clear s1 f0 O1 n1
    rintro σ H1 ⟨f, vs, rfl, s1, f0, O1, n1⟩
    have lr : (as.map V.ref).length = M.rows.length := by rw [List.length_map]; exact R.len
    refine ⟨OthMid H ts M b m t lot 5, ?_, ?_⟩
    · have n9 : vs.length < sizeLine := Nat.lt_of_le_of_lt n1 (by decide)
      have el1 := s1 _ _ el
      refine ⟨.ref lot, rfl, .ref lot, M.rows.length, rfl, .inl ⟨_, SqL.of el1, lr.symm⟩, _, _, rfl, rfl, _, rfl, ?_⟩
      by_cases c : M.rows.length < 16
      · refine iteY (show (M.rows.length : Int) < 16 by omega) ?_
        refine ⟨.ref f, rfl, .inl ⟨rfl, _, SqL.of O1.1⟩, .str M.name, rfl, .str M.part, rfl, (by show 2 ≤ sizeLine; decide), fun q1 h1 => ?_⟩
        have s2 : Same H1 (upd H1 q1 (.tup [V.str "room", V.int 3])) := Same.new h1
        have e2 : (upd H1 q1 (.tup [V.str "room", V.int 3])) q1 = some (.tup [V.str "room", V.int 3]) := upd_same
        generalize upd H1 q1 (.tup [V.str "room", V.int 3]) = H2 at s2 e2 ⊢
        refine ⟨(by show 1 ≤ sizeLine; decide), fun q2 h2 => ?_⟩
        have s3 : Same H2 (upd H2 q2 (.lst [V.ref q1])) := Same.new h2
        have e3 : (upd H2 q2 (.lst [V.ref q1])) q2 = some (.lst [V.ref q1]) := upd_same
        generalize upd H2 q2 (.lst [V.ref q1]) = H3 at s3 e3 ⊢
        refine ⟨.ref lot, rfl, q2, lot, _, _, rfl, rfl, e3, s3 _ _ (s2 _ _ el1), (by rw [lr]; show 1 + M.rows.length ≤ sizeLine; exact Nat.le_trans (show 1 + M.rows.length ≤ 100 by omega) (by decide)), fun q3 h3 => ?_⟩
        have s4 : Same H3 (upd H3 q3 (.lst ([V.ref q1] ++ as.map V.ref))) := Same.new h3
        have e4 : (upd H3 q3 (.lst ([V.ref q1] ++ as.map V.ref))) q3 = some (.lst ([V.ref q1] ++ as.map V.ref)) := upd_same
        generalize upd H3 q3 (.lst ([V.ref q1] ++ as.map V.ref)) = H4 at s4 e4 ⊢
        refine ⟨.int M.al, rfl, .str M.scope, rfl, .bl M.keep, rfl, (by show 6 ≤ sizeLine; decide), fun q hq => ?_⟩
        have s14 := (s2.trans s3).trans s4
        have s5 := Same.new (o := .tup [.str M.name, .str M.part, .ref q3, .int M.al, .str M.scope, .bl M.keep]) hq
        have s15 := s14.trans s5
        have nf : q3 ≠ f := (ne_of_none (s3 _ _ (s2 _ _ O1.1)) h3).symm
        refine ⟨f, _, _, rfl, rfl, s15 _ _ O1.1, n9, OthMid.add (s1.trans s15) f0 (O1.same s15) n1 ⟨q, q3, { M with rows := [.str "room", .int 3] :: M.rows }, rfl, ⟨q1 :: as, upd_same, s5 _ _ e4, .cons (s5 _ _ (s4 _ _ (s3 _ _ e2))) (R.tups (Same.tups (s1.trans s15)))⟩, nf, { ok with rw := memc ?_ ok.rw, ln := ?_, cl := ?_ }, pm_rows (datR_len ?_), pm_rows (datR_len ?_)⟩⟩
        · show RowOf ts M.part [.str "room", .int 3]
          unfold RowOf
          split
          · exact .room (by decide) (by decide)
          · exact .room (by decide) (by decide)
        · show M.rows.length + 1 ≤ 16
          omega
        · intro hc
          obtain ⟨r, xs, er, cx⟩ := ok.cl hc
          exact ⟨[.str "room", .int 3] :: r, xs, by rw [er]; rfl, cx⟩
        · show M.rows.length + 1 ≠ M.rows.length
          omega
        · show M.rows.length ≠ M.rows.length + 1
          omega
      · refine iteN (show ¬ (M.rows.length : Int) < 16 by omega) ?_
        exact OthMid.up ⟨f, vs, rfl, s1, f0, O1, n1⟩
    clear s1 f0 O1 n1
    rintro σ H1 ⟨f, vs, rfl, s1, f0, O1, n1⟩
    refine ⟨OthMid H ts M b m t lot 6, ?_, ?_⟩
    · have n9 : vs.length < sizeLine := Nat.lt_of_le_of_lt n1 (by decide)
      have el1 := s1 _ _ el
      refine ⟨.str M.part, rfl, rfl, _, rfl, ?_⟩
      by_cases c : M.part = "code"
      · refine iteY (by rw [c]) ?_
        obtain ⟨r, xs, er, cx⟩ := ok.cl c
        have R' := R
        rw [er] at R'
        obtain ⟨ar, a, ea, Rr, ha⟩ := R'.snoc
        have hx : RowOf ts M.part xs := ok.rw xs (by rw [er]; exact List.mem_append_right _ (List.mem_singleton.mpr rfl))
        have cr : ∀ {ys : List V}, CRow ts ys → RowOf ts M.part ys := fun h => by unfold RowOf; rw [if_pos c]; exact h
        have hx' : CRow ts xs := by unfold RowOf at hx; rw [if_pos c] at hx; exact hx
        have lM : M.rows.length = r.length + 1 := by rw [er, List.length_append]; rfl
        have l16 := ok.ln
        have lar : ar.length = r.length := Rr.len
        refine ⟨.ref f, rfl, .inl ⟨rfl, _, SqL.of O1.1⟩, .str M.name, rfl, .str M.part, rfl, ?_⟩
        refine ⟨.ref lot, rfl, .ref lot, rfl, .ref lot, M.rows.length, rfl, .inl ⟨_, SqL.of el1, lr.symm⟩, _, _, rfl, rfl, _, rfl, lot, _, rfl, SqL.of el1, fun p1 hp1 => ?_⟩
        have ec : cutV (as.map V.ref) none (some ((M.rows.length : Int) - 1)) = ar.map V.ref := by
          rw [show (M.rows.length : Int) - 1 = ((ar.length : Nat) : Int) by omega, cutV_to, ea, List.map_append]
          exact List.take_left' (by rw [List.length_map])
        rw [ec]
        have s2 : Same H1 (upd H1 p1 (.lst (ar.map V.ref))) := Same.new hp1
        have e2 : (upd H1 p1 (.lst (ar.map V.ref))) p1 = some (.lst (ar.map V.ref)) := upd_same
        generalize upd H1 p1 (.lst (ar.map V.ref)) = H2 at s2 e2 ⊢
        have el2 := s2 _ _ el1
        rw [ea, List.map_append] at el2
        refine ⟨.ref lot, rfl, 1, rfl, lot, _, -1, .ref a, rfl, rfl, SqL.of el2, atI_last _ _, (by show 1 ≤ sizeLine; decide), fun q0 hq0 => ?_⟩
        have s3 : Same H2 (upd H2 q0 (.tup [V.str "back"])) := Same.new hq0
        have e3 : (upd H2 q0 (.tup [V.str "back"])) q0 = some (.tup [V.str "back"]) := upd_same
        generalize upd H2 q0 (.tup [V.str "back"]) = H3 at s3 e3 ⊢
        have fx : ∀ x ∈ xs, okF x := hx.okF hz
        have sh : ∀ {ys : List V}, (∀ x ∈ ys, okF x) → SeqAt.shaped (.tuple (ys.map toD)) = true := fun {ys} h => by
          obtain ⟨c1, c2⟩ := layall_flat h
          unfold SeqAt.shaped
          simp only [PyData.canLay0, PyData.depth, c1, c2, Bool.true_and]
          decide
        have fb : ∀ x ∈ [V.str "back"], okF x := (cr .back).okF hz
        refine ⟨.tuple (xs.map toD), .tuple ([V.str "back"].map toD), .tup (SqT.of (s3 _ _ (s2 _ _ (s1 _ _ ha)))) (dpall_flat fun x m => (fx x m).1), .tup (SqT.of e3) (dpall_flat fun x m => (fb x m).1), sh fx, sh fb, ?_⟩
        refine ⟨_, rfl, ?_⟩
        show if (!PyData.eqv (.tuple (xs.map toD)) (.tuple [.str "back"])) = true then _ else _
        rcases alt_row hx' cx with ⟨g1, g2⟩ | ⟨g0, g1, g2⟩
        · rw [g1]
          refine iteT ⟨(by show 1 ≤ sizeLine; decide), fun p2 hp2 => ?_⟩
          have s4 : Same H3 (upd H3 p2 (.tup [V.str "back"])) := Same.new hp2
          have e4 : (upd H3 p2 (.tup [V.str "back"])) p2 = some (.tup [V.str "back"]) := upd_same
          generalize upd H3 p2 (.tup [V.str "back"]) = H4 at s4 e4 ⊢
          refine ⟨(by show 1 ≤ sizeLine; decide), fun p3 hp3 => ?_⟩
          have s5 : Same H4 (upd H4 p3 (.lst [V.ref p2])) := Same.new hp3
          have e5 : (upd H4 p3 (.lst [V.ref p2])) p3 = some (.lst [V.ref p2]) := upd_same
          generalize upd H4 p3 (.lst [V.ref p2]) = H5 at s5 e5 ⊢
          refine ⟨p1, p3, _, _, rfl, rfl, s5 _ _ (s4 _ _ (s3 _ _ e2)), e5, (by rw [List.length_map]; show ar.length + 1 ≤ sizeLine; exact Nat.le_trans (show ar.length + 1 ≤ 100 by omega) (by decide)), fun p4 hp4 => ?_⟩
          have s6 : Same H5 (upd H5 p4 (.lst (ar.map V.ref ++ [V.ref p2]))) := Same.new hp4
          have e6 : (upd H5 p4 (.lst (ar.map V.ref ++ [V.ref p2]))) p4 = some (.lst (ar.map V.ref ++ [V.ref p2])) := upd_same
          generalize upd H5 p4 (.lst (ar.map V.ref ++ [V.ref p2])) = H6 at s6 e6 ⊢
          refine ⟨.int M.al, rfl, .str M.scope, rfl, .bl M.keep, rfl, (by show 6 ≤ sizeLine; decide), fun q hq => ?_⟩
          have s7 := Same.new (o := .tup [.str M.name, .str M.part, .ref p4, .int M.al, .str M.scope, .bl M.keep]) hq
          have s15 := s2.trans (s3.trans (s4.trans (s5.trans s6)))
          have s17 := s15.trans s7
          have nf : p4 ≠ f := (ne_of_none (s5 _ _ (s4 _ _ (s3 _ _ (s2 _ _ O1.1)))) hp4).symm
          refine ⟨f, _, _, rfl, rfl, s17 _ _ O1.1, n9, OthMid.add (s1.trans s17) f0 (O1.same s17) n1 ⟨q, p4, { M with rows := r ++ [[.str "back"]] }, rfl, ⟨ar ++ [p2], upd_same, by rw [List.map_append]; exact s7 _ _ e6, (Rr.tups (Same.tups (s1.trans s17))).append (.cons (s7 _ _ (s6 _ _ (s5 _ _ e4))) .nil)⟩, nf, { ok with rw := mema (fun ys m => ok.rw ys (by rw [er]; exact List.mem_append_left _ m)) (mem1 (cr .back)), ln := ?_, cl := fun _ => ⟨r, _, rfl, by decide +kernel⟩ }, pm_rows ?_, pm_rows ?_⟩⟩
          · show (r ++ [_]).length ≤ 16
            rw [List.length_append]
            show r.length + 1 ≤ 16
            omega
          · show PyData.eqv (datR (r ++ [_])) (datR M.rows) = false
            rw [er]
            exact datR_last g2
          · show PyData.eqv (datR M.rows) (datR (r ++ [_])) = false
            rw [er]
            exact datR_last g1
        · rw [g0]
          refine iteF ⟨(by show 1 ≤ sizeLine; decide), fun p2 hp2 => ?_⟩
          have s4 : Same H3 (upd H3 p2 (.tup [V.str "halt"])) := Same.new hp2
          have e4 : (upd H3 p2 (.tup [V.str "halt"])) p2 = some (.tup [V.str "halt"]) := upd_same
          generalize upd H3 p2 (.tup [V.str "halt"]) = H4 at s4 e4 ⊢
          refine ⟨(by show 1 ≤ sizeLine; decide), fun p3 hp3 => ?_⟩
          have s5 : Same H4 (upd H4 p3 (.lst [V.ref p2])) := Same.new hp3
          have e5 : (upd H4 p3 (.lst [V.ref p2])) p3 = some (.lst [V.ref p2]) := upd_same
          generalize upd H4 p3 (.lst [V.ref p2]) = H5 at s5 e5 ⊢
          refine ⟨p1, p3, _, _, rfl, rfl, s5 _ _ (s4 _ _ (s3 _ _ e2)), e5, (by rw [List.length_map]; show ar.length + 1 ≤ sizeLine; exact Nat.le_trans (show ar.length + 1 ≤ 100 by omega) (by decide)), fun p4 hp4 => ?_⟩
          have s6 : Same H5 (upd H5 p4 (.lst (ar.map V.ref ++ [V.ref p2]))) := Same.new hp4
          have e6 : (upd H5 p4 (.lst (ar.map V.ref ++ [V.ref p2]))) p4 = some (.lst (ar.map V.ref ++ [V.ref p2])) := upd_same
          generalize upd H5 p4 (.lst (ar.map V.ref ++ [V.ref p2])) = H6 at s6 e6 ⊢
          refine ⟨.int M.al, rfl, .str M.scope, rfl, .bl M.keep, rfl, (by show 6 ≤ sizeLine; decide), fun q hq => ?_⟩
          have s7 := Same.new (o := .tup [.str M.name, .str M.part, .ref p4, .int M.al, .str M.scope, .bl M.keep]) hq
          have s15 := s2.trans (s3.trans (s4.trans (s5.trans s6)))
          have s17 := s15.trans s7
          have nf : p4 ≠ f := (ne_of_none (s5 _ _ (s4 _ _ (s3 _ _ (s2 _ _ O1.1)))) hp4).symm
          refine ⟨f, _, _, rfl, rfl, s17 _ _ O1.1, n9, OthMid.add (s1.trans s17) f0 (O1.same s17) n1 ⟨q, p4, { M with rows := r ++ [[.str "halt"]] }, rfl, ⟨ar ++ [p2], upd_same, by rw [List.map_append]; exact s7 _ _ e6, (Rr.tups (Same.tups (s1.trans s17))).append (.cons (s7 _ _ (s6 _ _ (s5 _ _ e4))) .nil)⟩, nf, { ok with rw := mema (fun ys m => ok.rw ys (by rw [er]; exact List.mem_append_left _ m)) (mem1 (cr .halt)), ln := ?_, cl := fun _ => ⟨r, _, rfl, by decide +kernel⟩ }, pm_rows ?_, pm_rows ?_⟩⟩
          · show (r ++ [_]).length ≤ 16
            rw [List.length_append]
            show r.length + 1 ≤ 16
            omega
          · show PyData.eqv (datR (r ++ [_])) (datR M.rows) = false
            rw [er]
            exact datR_last g2
          · show PyData.eqv (datR M.rows) (datR (r ++ [_])) = false
            rw [er]
            exact datR_last g1
      · refine iteN (fun z => c (V.str.inj z)) ?_
        refine ⟨.ref lot, rfl, .ref lot, M.rows.length, rfl, .inl ⟨_, SqL.of el1, lr.symm⟩, _, _, rfl, rfl, _, rfl, ?_⟩
        by_cases c2 : M.rows.length < 16
        · refine iteY (show (M.rows.length : Int) < 16 by omega) ?_
          refine ⟨.ref f, rfl, .inl ⟨rfl, _, SqL.of O1.1⟩, .str M.name, rfl, .str M.part, rfl, .ref lot, rfl, (by show 2 ≤ sizeLine; decide), fun q1 h1 => ?_⟩
          have s2 : Same H1 (upd H1 q1 (.tup [V.str "word", V.int 7])) := Same.new h1
          have e2 : (upd H1 q1 (.tup [V.str "word", V.int 7])) q1 = some (.tup [V.str "word", V.int 7]) := upd_same
          generalize upd H1 q1 (.tup [V.str "word", V.int 7]) = H2 at s2 e2 ⊢
          refine ⟨(by show 1 ≤ sizeLine; decide), fun q2 h2 => ?_⟩
          have s3 : Same H2 (upd H2 q2 (.lst [V.ref q1])) := Same.new h2
          have e3 : (upd H2 q2 (.lst [V.ref q1])) q2 = some (.lst [V.ref q1]) := upd_same
          generalize upd H2 q2 (.lst [V.ref q1]) = H3 at s3 e3 ⊢
          refine ⟨lot, q2, _, _, rfl, rfl, s3 _ _ (s2 _ _ el1), e3, (by rw [lr]; show M.rows.length + 1 ≤ sizeLine; exact Nat.le_trans (show M.rows.length + 1 ≤ 100 by omega) (by decide)), fun q3 h3 => ?_⟩
          have s4 : Same H3 (upd H3 q3 (.lst (as.map V.ref ++ [V.ref q1]))) := Same.new h3
          have e4 : (upd H3 q3 (.lst (as.map V.ref ++ [V.ref q1]))) q3 = some (.lst (as.map V.ref ++ [V.ref q1])) := upd_same
          generalize upd H3 q3 (.lst (as.map V.ref ++ [V.ref q1])) = H4 at s4 e4 ⊢
          refine ⟨.int M.al, rfl, .str M.scope, rfl, .bl M.keep, rfl, (by show 6 ≤ sizeLine; decide), fun q hq => ?_⟩
          have s14 := (s2.trans s3).trans s4
          have s5 := Same.new (o := .tup [.str M.name, .str M.part, .ref q3, .int M.al, .str M.scope, .bl M.keep]) hq
          have s15 := s14.trans s5
          have nf : q3 ≠ f := (ne_of_none (s3 _ _ (s2 _ _ O1.1)) h3).symm
          refine ⟨f, _, _, rfl, rfl, s15 _ _ O1.1, n9, OthMid.add (s1.trans s15) f0 (O1.same s15) n1 ⟨q, q3, { M with rows := M.rows ++ [[.str "word", .int 7]] }, rfl, ⟨as ++ [q1], upd_same, by rw [List.map_append]; exact s5 _ _ e4, (R.tups (Same.tups (s1.trans s15))).append (.cons (s5 _ _ (s4 _ _ (s3 _ _ e2))) .nil)⟩, nf, { ok with rw := mema ok.rw (mem1 ?_), ln := ?_, cl := fun hc => absurd hc c }, pm_rows (datR_len ?_), pm_rows (datR_len ?_)⟩⟩
          · show RowOf ts M.part [.str "word", .int 7]
            unfold RowOf
            rw [if_neg c]
            exact .word (by decide) (by decide)
          · show (M.rows ++ [_]).length ≤ 16
            rw [List.length_append]
            show M.rows.length + 1 ≤ 16
            omega
          · show (M.rows ++ [_]).length ≠ M.rows.length
            rw [List.length_append]
            show M.rows.length + 1 ≠ M.rows.length
            omega
          · show M.rows.length ≠ (M.rows ++ [_]).length
            rw [List.length_append]
            show M.rows.length ≠ M.rows.length + 1
            omega
        · refine iteN (show ¬ (M.rows.length : Int) < 16 by omega) ?_
          exact OthMid.up ⟨f, vs, rfl, s1, f0, O1, n1⟩
    clear s1 f0 O1 n1
    rintro σ H1 ⟨f, vs, rfl, s1, f0, O1, n1⟩
    exact ⟨.ref f, rfl, k _ f vs s1 f0 O1 (Nat.le_trans n1 (by decide))⟩
end

section
variable {P : Program} {w : World} {K : PySem.W.Frag} {mg : Str → Option Value} {base : Heap} {Z : Fs}
/-! ### the law -/
def sp_law (K : PySem.W.Frag) : Sp := fun vs H Q _ => ∃ (a : Addr) (ns : List Int), vs = [.ref a] ∧ SqL K H a (ns.map V.int) ∧ ns.length ≤ 63 ∧ ∀ H', Q (.bl true) H'
structure LawI (C : Addr) (H : Hp) (b l t : Addr) (zs : List Str) (m lot : Addr) (M : PM) (p1 q1 p2 q2 : Addr) : Prop where
  bag : Bag H b l
  tls : Tls H b t zs
  mod : ModQ H m lot M
  one : PieceQ C H p1 q1 M
  two : PieceQ C H p2 q2 M
theorem Tls.same {H H' : Hp} {b t : Addr} {ts : List Str} (s : Same H H') (h : Tls H b t ts) : Tls H' b t ts := ⟨s _ _ h.1, h.2⟩
theorem LawI.same {C : Addr} {H H' : Hp} {b l t : Addr} {zs : List Str} {m lot : Addr} {M : PM} {p1 q1 p2 q2 : Addr} (s : Same H H') (h : LawI C H b l t zs m lot M p1 q1 p2 q2) : LawI C H' b l t zs m lot M p1 q1 p2 q2 :=
  ⟨h.bag.same s, h.tls.same s, h.mod.same s, h.one.same s, h.two.same s⟩
def Frs (b l t lot q1 q2 g : Addr) : Prop := g ≠ b ∧ g ≠ l ∧ g ≠ t ∧ lot ≠ g ∧ q1 ≠ g ∧ q2 ≠ g
theorem LawI.frs {C : Addr} {H : Hp} {b l t : Addr} {zs : List Str} {m lot : Addr} {M : PM} {p1 q1 p2 q2 g : Addr} (h : LawI C H b l t zs m lot M p1 q1 p2 q2) (hg : H g = none) : Frs b l t lot q1 q2 g := by
  obtain ⟨_, _, e1, _⟩ := h.mod
  obtain ⟨_, _, _, e2, _⟩ := h.one
  obtain ⟨_, _, _, e3, _⟩ := h.two
  exact ⟨h.bag.ne hg, h.bag.nel hg, (ne_of_none h.tls.1 hg).symm, ne_of_none e1 hg, ne_of_none e2 hg, ne_of_none e3 hg⟩
theorem LawI.put {C : Addr} {H : Hp} {b l t : Addr} {zs : List Str} {m lot : Addr} {M : PM} {p1 q1 p2 q2 g : Addr} {o : HO} {xs : List V} (h : LawI C H b l t zs m lot M p1 q1 p2 q2) (f : Frs b l t lot q1 q2 g) (e : H g = some (.lst xs)) : LawI C (upd H g o) b l t zs m lot M p1 q1 p2 q2 := by
  obtain ⟨f1, f2, f3, f4, f5, f6⟩ := f
  exact ⟨h.bag.put f1 f2, ⟨by rw [upd_ne f3.symm]; exact h.tls.1, h.tls.2⟩, h.mod.put e f4, h.one.put e f5, h.two.put e f6⟩
theorem ok_law (T : Txt K w mg Z) : FnOk P w K mg base CX0 10 Z.a_law Z.d_law ["_law_script"] (sp_law K) := by
  have G_law_bag : FnOk P w K mg base CX0 1 Z.a_law_bag Z.d_law_bag ["_law_script"] (sp_law_bag K) := ok_law_bag T
  have G_law_draw : FnOk P w K mg base CX0 1 Z.a_law_draw Z.d_law_draw ["_law_bag_here", "_law_sides"] sp_law_draw := ok_law_draw T
  have G_law_titles : FnOk P w K mg base CX0 3 Z.a_law_titles Z.d_law_titles ["_law_bag_here", "_law_many"] (sp_law_titles K) := ok_law_titles T
  have G_law_piece_model : FnOk P w K mg base CX0 5 Z.a_law_piece_model Z.d_law_piece_model ["_law_bag_here", "_law_title", "_law_titles_here", "_law_most"] (sp_model K) := ok_law_piece_model T
  have G_law_piece : FnOk P w K mg base CX0 9 Z.a_law_piece Z.d_law_piece ["_law_model"] (sp_lpiece K Z.C_Piece) := ok_law_piece T
  have G_law_told_so : FnOk P w K mg base CX0 5 Z.a_law_told_so Z.d_law_told_so ["_law_piece_y", "_law_model"] (sp_told K Z.C_Piece) := ok_law_told_so T
  have G_law_others : FnOk P w K mg base CX0 1 Z.a_law_others Z.d_law_others ["_law_bag_here", "_law_model", "_law_titles_here"] sp_others := ok_law_others T
  have G_law_same : FnOk P w K mg base CX0 4 Z.a_law_same Z.d_law_same ["_law_found", "_law_due"] (sp_law_same K 3) := ok_law_same T 3
  have G_Piece___init__ : FnOk P w K mg base CX0 7 Z.a_Piece___init__ Z.d_Piece___init__ ["self", "name", "part", "rows", "alignment", "scope", "keep"] (sp_init K Z.C_Piece) := ok_Piece_init T
  have G_Piece_rows : FnOk P w K mg base CX0 1 Z.a_Piece_rows Z.d_Piece_rows ["self"] (sp_rows Z.C_Piece) := ok_Piece_rows T
  have G_Piece___eq__ : FnOk P w K mg base CX0 1 Z.a_Piece___eq__ Z.d_Piece___eq__ ["self", "other"] (sp_peq K Z.C_Piece) := ok_Piece_eq T
  refine T.F_law.ok sc_law (fun vs H Q E h => ?_) (fun cdv A outer s H vs Q E hr h => ?_)
  · obtain ⟨a, ns, rfl, _⟩ := h
    rfl
  · obtain ⟨a, ns, rfl, hS, hlen, k⟩ := h
    refine ⟨_, (pss_cons (ps_set (i := 1) sc_law.nd rfl (Or.inl rfl) (pe_call G_law_bag (hr.mono (by omega)) (by rfl) T.m_law_bag T.F_law_bag.kp T.b_law_bag .nil pass0 (pa_cons (pv 0) pa_nil)))
      (pss_cons (ps_set (i := 2) sc_law.nd rfl (Or.inl rfl) (pe_call G_law_titles (hr.mono (by omega)) (by rfl) T.m_law_titles T.F_law_titles.kp T.b_law_titles .nil pass0 (pa_cons (pv 1) (pa_cons pe_int pa_nil))))
      (pss_cons (ps_for PassesOwn.never rfl (pi_range1 (by rfl) T.n_range (pa_cons pe_int pa_nil)) (pg_name (i := 3) sc_law.nd rfl (Or.inl rfl)) (C8.pss_cut (ps_set (i := 4) sc_law.nd rfl (Or.inl rfl) (pe_call G_law_piece_model (hr.mono (by omega)) (by rfl) T.m_law_piece_model T.F_law_piece_model.kp T.b_law_piece_model .nil pass0 (pa_cons (pv 1) (pa_cons (pe_ix ix_list (pv 2) (pe_call G_law_draw (hr.mono (by omega)) (by rfl) T.m_law_draw T.F_law_draw.kp T.b_law_draw .nil pass0 (pa_cons (pv 1) (pa_cons pe_int pa_nil))) (fun _ _ => rfl)) (pa_cons (pv 2) (pa_cons (pe_ifExp (pt_cmpR op_eq (pv 3) pe_int (nomark _)) pe_int pe_int) pa_nil))))))
      (pss_cons (ps_set (i := 5) sc_law.nd rfl (Or.inl rfl) (pe_callTy call_list_of (by rfl) T.n_list boot_list (pa_cons (pe_ix ix_tup (pv 4) pe_int (fun _ _ => rfl)) pa_nil)))
      (pss_cons (ps_set (i := 6) sc_law.nd rfl (Or.inl rfl) (pe_makeK T.mk_Piece G_Piece___init__ (hr.mono (by omega)) (by rfl) T.m_Piece (Classical.choose_spec T.d_Piece___init___4_alignment_scope_keep) pass0 (pa_cons (pe_ix ix_tup (pv 4) pe_int (fun _ _ => rfl)) (pa_cons (pe_ix ix_tup (pv 4) pe_int (fun _ _ => rfl)) (pa_cons (pv 5) pa_nil))) (pk_cons (pe_ix ix_tup (pv 4) pe_int (fun _ _ => rfl)) (pk_cons (pe_ix ix_tup (pv 4) pe_int (fun _ _ => rfl)) (pk_cons (pe_ix ix_tup (pv 4) pe_int (fun _ _ => rfl)) pk_nil)))))
      (pss_cons (ps_set (i := 7) sc_law.nd rfl (Or.inl rfl) (pe_makeK0 T.mk_Piece G_Piece___init__ (hr.mono (by omega)) (by rfl) T.m_Piece (Classical.choose_spec T.d_Piece___init___1_keep_scope_alignment_rows_part_name) pass0 (pk_cons (pe_ix ix_tup (pv 4) pe_int (fun _ _ => rfl)) (pk_cons (pe_ix ix_tup (pv 4) pe_int (fun _ _ => rfl)) (pk_cons (pe_ix ix_tup (pv 4) pe_int (fun _ _ => rfl)) (pk_cons (pe_callTy call_tuple_of (by rfl) T.n_tuple boot_tuple (pa_cons (pe_ix ix_tup (pv 4) pe_int (fun _ _ => rfl)) pa_nil)) (pk_cons (pe_ix ix_tup (pv 4) pe_int (fun _ _ => rfl)) (pk_cons (pe_ix ix_tup (pv 4) pe_int (fun _ _ => rfl)) pk_nil))))))))
      (pss_cons (ps_expr (pe_bm PySem.F.plainAttrs_list PySem.F.slot_list_append PySem.F.type_list_append mt_append (pv 5) (pa_cons (pe_tup (pa_cons pe_str pa_nil)) pa_nil)))
      (pss_cons (ps_expr (pe_bm0 PySem.F.plainAttrs_list PySem.F.slot_list_reverse PySem.F.type_list_reverse mt_reverse (pv 5)))
      (pss_cons (ps_for PassesOwn.never rfl (pi_range1 (by rfl) T.n_range (pa_cons pe_int pa_nil)) (pg_name (i := 8) sc_law.nd rfl (Or.inl rfl)) (pss_cons (ps_if (PW.pt (pw_or (pt_not (pt_val (pe_call G_law_told_so (hr.mono (by omega)) (by rfl) T.m_law_told_so T.F_law_told_so.kp T.b_law_told_so .nil pass0 (pa_cons (pv 6) (pa_cons (pv 4) pa_nil))))) (pw_or1 (pt_not (pt_val (pe_call G_law_told_so (hr.mono (by omega)) (by rfl) T.m_law_told_so T.F_law_told_so.kp T.b_law_told_so .nil pass0 (pa_cons (pv 7) (pa_cons (pv 4) pa_nil)))))))) (pss_one (ps_ret pe_bl)) pss_nil)
      (pss_cons (ps_set (i := 9) sc_law.nd rfl (Or.inl rfl) (pe_meth0 (pv 6) T.cl_Piece T.M_Piece_rows G_Piece_rows (hr.mono (by omega)) T.b_Piece_rows .nil pass0))
      (pss_cons (ps_expr (pe_bm PySem.F.plainAttrs_list PySem.F.slot_list_append PySem.F.type_list_append mt_append (pv 9) (pa_cons pe_non pa_nil)))
      (pss_one (ps_expr (pe_bm0 PySem.F.plainAttrs_list PySem.F.slot_list_reverse PySem.F.type_list_reverse mt_reverse (pv 9))))))))
      (pss_cons (ps_set (i := 10) sc_law.nd rfl (Or.inl rfl) (pe_lst (pa_cons (pe_cmpR (op_eqO G_Piece___eq__ (hr.mono (by omega)) T.S_Piece___eq__ T.b_Piece___eq__ pass0) (pv 6) (pv 7) (nomark _)) (pa_cons (pe_cmpR (op_neO G_Piece___eq__ (hr.mono (by omega)) T.S_Piece___eq__ T.i_Piece.ne T.i_Piece.ins.hm T.b_Piece___eq__ pass0) (pv 6) (pv 7) (nomark _)) (pa_cons (pe_cmpR (op_eqO G_Piece___eq__ (hr.mono (by omega)) T.S_Piece___eq__ T.b_Piece___eq__ pass0) (pv 7) (pv 6) (nomark _)) (pa_cons (pe_cmpR (op_eqO G_Piece___eq__ (hr.mono (by omega)) T.S_Piece___eq__ T.b_Piece___eq__ pass0) (pv 6) (pv 4) (nomark _)) (pa_cons (pe_cmpR (op_eqO G_Piece___eq__ (hr.mono (by omega)) T.S_Piece___eq__ T.b_Piece___eq__ pass0) (pv 6) (pe_ix ix_tup (pv 4) pe_int (fun _ _ => rfl)) (nomark _)) (pa_cons (pe_cmpR (op_eqO G_Piece___eq__ (hr.mono (by omega)) T.S_Piece___eq__ T.b_Piece___eq__ pass0) (pv 6) pe_non (nomark _)) pa_nil))))))))
      (pss_cons (ps_if (pt_not (pt_val (pe_call G_law_same (hr.mono (by omega)) (by rfl) T.m_law_same T.F_law_same.kp T.b_law_same .nil pass0 (pa_cons (pv 10) (pa_cons (pe_lst (pa_cons pe_bl (pa_cons pe_bl (pa_cons pe_bl (pa_cons pe_bl (pa_cons pe_bl (pa_cons pe_bl pa_nil))))))) pa_nil))))) (pss_one (ps_ret pe_bl)) pss_nil)
      (pss_one (ps_for PassesOwn.never rfl (pi_list (pe_call G_law_others (hr.mono (by omega)) (by rfl) T.m_law_others T.F_law_others.kp T.b_law_others .nil pass0 (pa_cons (pv 1) (pa_cons (pv 4) (pa_cons (pv 2) pa_nil))))) (pg_name (i := 11) sc_law.nd rfl (Or.inl rfl)) (pss_cons (ps_set (i := 12) sc_law.nd rfl (Or.inl rfl) (pe_call G_law_piece (hr.mono (by omega)) (by rfl) T.m_law_piece T.F_law_piece.kp T.b_law_piece .nil pass0 (pa_cons (pv 11) pa_nil)))
      (pss_one (ps_if (PW.pt (pw_or (pt_cmpR (op_eqO G_Piece___eq__ (hr.mono (by omega)) T.S_Piece___eq__ T.b_Piece___eq__ pass0) (pv 12) (pv 6) (nomark _)) (pw_or (pt_cmpR (op_eqO G_Piece___eq__ (hr.mono (by omega)) T.S_Piece___eq__ T.b_Piece___eq__ pass0) (pv 6) (pv 12) (nomark _)) (pw_or1 (pt_not (pt_val (pe_call G_law_told_so (hr.mono (by omega)) (by rfl) T.m_law_told_so T.F_law_told_so.kp T.b_law_told_so .nil pass0 (pa_cons (pv 12) (pa_cons (pv 11) pa_nil))))))))) (pss_one (ps_ret pe_bl)) pss_nil)))))))))))))))
      (pss_cons (ps_par (i := 13) (j := 14) (by rfl) sc_law.nd rfl rfl (by decide) rfl rfl (pa_cons (pe_make T.mk_Piece G_Piece___init__ (hr.mono (by omega)) (by rfl) T.m_Piece (Classical.choose_spec T.d_Piece___init___4).2 (Classical.choose_spec T.d_Piece___init___4).1 pass0 (pa_cons (pe_ix ix_list (pv 2) pe_int (fun _ _ => rfl)) (pa_cons pe_str (pa_cons (pe_lst (pa_cons (pe_tup (pa_cons pe_str pa_nil)) pa_nil)) pa_nil)))) (pa_cons (pe_make T.mk_Piece G_Piece___init__ (hr.mono (by omega)) (by rfl) T.m_Piece (Classical.choose_spec T.d_Piece___init___4).2 (Classical.choose_spec T.d_Piece___init___4).1 pass0 (pa_cons (pe_ix ix_list (pv 2) pe_int (fun _ _ => rfl)) (pa_cons pe_str (pa_cons (pe_tup pa_nil) pa_nil)))) pa_nil)) (by rfl))
      (pss_one (ps_ret (pe_and (pe_call G_law_told_so (hr.mono (by omega)) (by rfl) T.m_law_told_so T.F_law_told_so.kp T.b_law_told_so .nil pass0 (pa_cons (pv 13) (pa_cons (pe_tup (pa_cons (pe_ix ix_list (pv 2) pe_int (fun _ _ => rfl)) (pa_cons pe_str (pa_cons (pe_lst (pa_cons (pe_tup (pa_cons pe_str pa_nil)) pa_nil)) (pa_cons pe_int (pa_cons pe_str (pa_cons pe_bl pa_nil))))))) pa_nil))) (pe_one (pe_call G_law_told_so (hr.mono (by omega)) (by rfl) T.m_law_told_so T.F_law_told_so.kp T.b_law_told_so .nil pass0 (pa_cons (pv 14) (pa_cons (pe_tup (pa_cons (pe_ix ix_list (pv 2) pe_int (fun _ _ => rfl)) (pa_cons pe_str (pa_cons (pe_lst pa_nil) (pa_cons pe_int (pa_cons pe_str (pa_cons pe_bl pa_nil))))))) pa_nil))))))))))), ?_⟩
    refine ⟨.ref a, rfl, a, ns, rfl, hS, hlen, fun H0 b l s0 hb0 _ B0 => ?_⟩
    refine ⟨.ref b, rfl, b, l, 4, rfl, B0, by decide, fun H1 t zs s1 B1 z1 nt nl e1 lz hz nd => ?_⟩
    obtain ⟨z0, zb, zr, rfl⟩ : ∃ z0 zb zr, zs = z0 :: zb :: zr := by
      match zs, lz with
      | z0 :: zb :: zr, _ => exact ⟨z0, zb, zr, rfl⟩
    have n01 : z0 ≠ zb := fun e => (List.nodup_cons.mp nd).1 (by rw [e]; exact List.mem_cons_self ..)
    have T1 : Tls H1 b t (z0 :: zb :: zr) := ⟨e1, nt, Nat.succ_pos _, by rw [lz]; decide⟩
    clear s0 s1 z1 B0 hb0 hS
    refine ⟨5, rfl, by decide, by decide, for_range (lo := 0) (n := (5 : Int).toNat) (fun i σ H' => ∃ (y3 y4 y5 y6 y7 y8 y9 y10 y11 y12 : Option V), σ = [some (.ref a), some (.ref b), some (.ref t), y3, y4, y5, y6, y7, y8, y9, y10, y11, y12, none, none] ∧ Bag H' b l ∧ Tls H' b t (z0 :: zb :: zr)) ⟨_, _, _, _, _, _, _, _, _, _, rfl, B1, T1⟩ ?_ ?_⟩
    · rintro i σ H2 hi ⟨y3, y4, y5, y6, y7, y8, y9, y10, y11, y12, rfl, B2, T2⟩
      refine ⟨fun σ' H' => ∃ (m lot : Addr) (M : PM), σ' = [some (.ref a), some (.ref b), some (.ref t), some (.int (0 + (i : Int))), some (.ref m), y5, y6, y7, y8, y9, y10, y11, y12, none, none] ∧ Bag H' b l ∧ Tls H' b t (z0 :: zb :: zr) ∧ ModQ H' m lot M ∧ M.Ok (z0 :: zb :: zr) ∧ lot ≠ t, ?_, ?_⟩
      · refine ⟨.ref b, rfl, .ref t, rfl, .ref b, rfl, b, l, 2, rfl, B2, by decide, by decide, fun H3 d s3 B3 d0 d1 => ?_⟩
        have T3 := T2.stp s3
        obtain ⟨v, hv, hm⟩ := mem_at (xs := (z0 :: zb :: zr).map V.str) d0 (by simp; omega)
        obtain ⟨zt, hzt, rfl⟩ := List.mem_map.mp hm
        refine ⟨t, _, d, .str zt, rfl, rfl, SqL.of T3.1, hv, .ref t, rfl, .int (0 + (i : Int)), rfl, rfl, _, rfl, ?_⟩
        exact ite2 (fun _ => ⟨b, l, t, z0 :: zb :: zr, zt, 15, rfl, B3, T3, hz, hzt, by decide, by decide, fun H4 m lot M s4 B4 hl n1 n2 MQ ok en => ⟨m, lot, M, rfl, B4, T3.stp s4, MQ, ok, (ne_of_none T3.1 hl).symm⟩⟩) (fun _ => ⟨b, l, t, z0 :: zb :: zr, zt, 4, rfl, B3, T3, hz, hzt, by decide, by decide, fun H4 m lot M s4 B4 hl n1 n2 MQ ok en => ⟨m, lot, M, rfl, B4, T3.stp s4, MQ, ok, (ne_of_none T3.1 hl).symm⟩⟩)
      clear B2 T2
      rintro σ H2 ⟨m, lot, M, rfl, B2, T2, MQ2, ok, nlt⟩
      obtain ⟨as, em, el, R⟩ := id MQ2
      have ST := SqT.of (K := K) em
      -- given
      refine ⟨.ref m, rfl, m, _, 2, _, rfl, rfl, ST, rfl, lot, _, rfl, .inl (SqL.of el), fun g hg => ?_⟩
      have fgb := B2.ne hg
      have fgl := B2.nel hg
      have fgt := (ne_of_none T2.1 hg).symm
      have flg := ne_of_none el hg
      have s3 : Same H2 (upd H2 g (.lst (as.map V.ref))) := Same.new hg
      have e3 : (upd H2 g (.lst (as.map V.ref))) g = some (.lst (as.map V.ref)) := upd_same
      generalize upd H2 g (.lst (as.map V.ref)) = H3 at s3 e3 ⊢
      have ST3 := SqT.of (K := K) (s3 _ _ em)
      -- made
      refine ⟨.ref m, rfl, m, _, 0, _, rfl, rfl, ST3, rfl, .ref m, rfl, m, _, 1, _, rfl, rfl, ST3, rfl, .ref g, rfl, .ref m, rfl, m, _, 3, _, rfl, rfl, ST3, rfl, .ref m, rfl, m, _, 4, _, rfl, rfl, ST3, rfl, .ref m, rfl, m, _, 5, _, rfl, rfl, ST3, rfl, rfl, rfl, fun p1 dx1 hx1 hd1 nd1 => ?_⟩
      have s4 := made_same0 (C := Z.C_Piece) hx1 hd1
      refine ⟨p1, g, dx1, as, _, M, rfl, upd_same, hz, ok, .inl (s4.seq (SqL.of e3)), R.tups (Same.tups (s3.trans s4)), ne_of_none e3 hx1, fun H4 q1 s4' PQ1 hq1 => ⟨rfl, ?_⟩⟩
      have nq1g := (ne_of_none (s4 _ _ e3) hq1).symm
      replace s4 := made_same (H1 := H3) hx1 hd1 s4'
      clear s4' hq1 hx1 hd1 nd1
      have s24 := s3.trans s4
      have ST4 := SqT.of (K := K) (s24 _ _ em)
      have e4 := s4 _ _ e3
      -- other
      refine ⟨.ref m, rfl, m, _, 5, _, rfl, rfl, ST4, rfl, .ref m, rfl, m, _, 4, _, rfl, rfl, ST4, rfl, .ref m, rfl, m, _, 3, _, rfl, rfl, ST4, rfl, .ref m, rfl, m, _, 2, _, rfl, rfl, ST4, rfl, lot, _, rfl, .inl ⟨SqL.of (s24 _ _ el), fun tp htp => ?_⟩⟩
      have s5 : Same H4 (upd H4 tp (.tup (as.map V.ref))) := Same.new htp
      have e5 : (upd H4 tp (.tup (as.map V.ref))) tp = some (.tup (as.map V.ref)) := upd_same
      generalize upd H4 tp (.tup (as.map V.ref)) = H5 at s5 e5 ⊢
      have s25 := s24.trans s5
      have ST5 := SqT.of (K := K) (s25 _ _ em)
      refine ⟨.ref m, rfl, m, _, 1, _, rfl, rfl, ST5, rfl, .ref m, rfl, m, _, 0, _, rfl, rfl, ST5, rfl, rfl, rfl, fun p2 dx2 hx2 hd2 nd2 => ?_⟩
      have s6 := made_same0 (C := Z.C_Piece) hx2 hd2
      refine ⟨p2, tp, dx2, as, _, M, rfl, upd_same, hz, ok, .inr (SqT.of (s6 _ _ e5)), R.tups (Same.tups (s25.trans s6)), ne_of_none e5 hx2, fun H6 q2 s6' PQ2 hq2 => ⟨rfl, ?_⟩⟩
      have nq2g := (ne_of_none (s6 _ _ (s5 _ _ e4)) hq2).symm
      replace s6 := made_same (H1 := H5) hx2 hd2 s6'
      clear s6' hq2 hx2 hd2 nd2
      have s26 := s25.trans s6
      have e6 := s6 _ _ (s5 _ _ e4)
      have I6 : LawI Z.C_Piece H6 b l t (z0 :: zb :: zr) m lot M p1 q1 p2 q2 := ⟨B2.same s26, T2.same s26, MQ2.same s26, PQ1.same (s5.trans s6), PQ2⟩
      have fg : Frs b l t lot q1 q2 g := ⟨fgb, fgl, fgt, flg, nq1g, nq2g⟩
      have las : (as.map V.ref).length < sizeLine := by
        rw [List.length_map, R.len]
        exact Nat.lt_of_le_of_lt ok.ln (by decide)
      -- what was given is turned
      refine ⟨.ref g, rfl, .inl ⟨rfl, _, SqL.of e6⟩, (by show 1 ≤ sizeLine; decide), fun h hh => ?_⟩
      have s7 : Same H6 (upd H6 h (.tup [V.str "halt"])) := Same.new hh
      have e7 : (upd H6 h (.tup [V.str "halt"])) h = some (.tup [V.str "halt"]) := upd_same
      generalize upd H6 h (.tup [V.str "halt"]) = H7 at s7 e7 ⊢
      have e7g := s7 _ _ e6
      refine ⟨g, _, _, rfl, rfl, e7g, las, ?_⟩
      refine ⟨.ref g, rfl, .inl ⟨rfl, _, SqL.of upd_same⟩, g, _, rfl, rfl, upd_same, ?_⟩
      have I8 := ((I6.same s7).put (o := .lst (as.map V.ref ++ [V.ref h])) fg e7g).put (o := .lst (as.map V.ref ++ [V.ref h]).reverse) fg upd_same
      generalize upd (upd H7 g (.lst (as.map V.ref ++ [V.ref h]))) g (.lst (as.map V.ref ++ [V.ref h]).reverse) = H8 at I8 ⊢
      clear I6 MQ2 T2 B2 em el R ST ST3 ST4 ST5 e3 e4 e5 e6 e7 e7g s3 s4 s5 s6 s7 s24 s25 s26 PQ1 PQ2 fg hg htp hh
      have la : ∀ {G : Hp} {x : Addr} {xs : List V} {aw : List Addr}, RowsIn G aw M.rows → (aw.map V.ref).length < sizeLine := fun R => by
        rw [List.length_map, R.len]
        exact Nat.lt_of_le_of_lt ok.ln (by decide)
      -- told twice
      refine ⟨2, rfl, by decide, by decide, for_range (lo := 0) (n := (2 : Int).toNat) (fun j σ H' => ∃ (y8 y9 : Option V), σ = [some (.ref a), some (.ref b), some (.ref t), some (.int (0 + (i : Int))), some (.ref m), some (.ref g), some (.ref p1), some (.ref p2), y8, y9, y10, y11, y12, none, none] ∧ LawI Z.C_Piece H' b l t (z0 :: zb :: zr) m lot M p1 q1 p2 q2) ⟨_, _, rfl, I8⟩ ?_ ?_⟩
      · rintro j σ G hj ⟨y8, y9, rfl, I⟩
        refine ⟨.ref p1, rfl, .ref m, rfl, p1, q1, m, lot, _, M, rfl, I.one, I.mod, hz, ok, fun G1 s1 => ⟨true, rfl, ?_⟩⟩
        replace I := I.same s1
        refine iteF ⟨.ref p2, rfl, .ref m, rfl, p2, q2, m, lot, _, M, rfl, I.two, I.mod, hz, ok, fun G2 s2 => ⟨true, rfl, ?_⟩⟩
        replace I := I.same s2
        refine iteF ?_
        obtain ⟨dx, ap, hp, hq, Rp⟩ := id I.one
        refine ⟨.ref p1, rfl, p1, dx, _, rfl, hp, pf_no (by decide +kernel), p1, q1, M, rfl, I.one, fun x ax hx Rx => ?_⟩
        have fx := I.frs hx
        have s3 : Same G2 (upd G2 x (.lst (ax.map V.ref))) := Same.new hx
        have e3 : (upd G2 x (.lst (ax.map V.ref))) x = some (.lst (ax.map V.ref)) := upd_same
        generalize upd G2 x (.lst (ax.map V.ref)) = G3 at s3 e3 ⊢
        replace I := I.same s3
        refine ⟨.ref x, rfl, .inl ⟨rfl, _, SqL.of e3⟩, x, _, _, rfl, rfl, e3, la (x := x) (xs := []) Rx, ?_⟩
        refine ⟨.ref x, rfl, .inl ⟨rfl, _, SqL.of upd_same⟩, x, _, rfl, rfl, upd_same, ?_⟩
        exact ⟨_, _, rfl, (I.put fx e3).put fx upd_same⟩
      clear I8
      rintro σ G ⟨y8, y9, rfl, I⟩
      -- the comparisons
      obtain ⟨dx, ap, hp, hq, Rp⟩ := id I.one
      obtain ⟨dx', ap', hp', hq', Rp'⟩ := id I.two
      obtain ⟨as, em, el, R⟩ := id I.mod
      have ST := SqT.of (K := K) em
      have rf := pmEq_refl hz ok
      have r2 : RhsT K Z.C_Piece G (.ref p2) := RhsT.ins T.i_Piece hp'
      have r1 : RhsT K Z.C_Piece G (.ref p1) := RhsT.ins T.i_Piece hp
      refine ⟨.ref p1, rfl, .ref p2, rfl, p1, dx, _, rfl, hp, r2, p1, q1, M, _, .ref p2, true, rfl, I.one, hz, ok, .inl ⟨p2, q2, M, rfl, I.two, ok, rf.symm⟩, true, rfl, ?_⟩
      refine ⟨.ref p1, rfl, .ref p2, rfl, p1, dx, _, rfl, hp, r2, p1, q1, M, _, .ref p2, true, rfl, I.one, hz, ok, .inl ⟨p2, q2, M, rfl, I.two, ok, rf.symm⟩, true, rfl, ?_⟩
      refine ⟨.ref p2, rfl, .ref p1, rfl, p2, dx', _, rfl, hp', r1, p2, q2, M, _, .ref p1, true, rfl, I.two, hz, ok, .inl ⟨p1, q1, M, rfl, I.one, ok, rf.symm⟩, true, rfl, ?_⟩
      refine ⟨.ref p1, rfl, .ref m, rfl, p1, dx, _, rfl, hp, RhsT.six T.i_Piece (by decide) (tyx_t ST), p1, q1, M, _, .ref m, false, rfl, I.one, hz, ok, .inr ⟨_, by decide, tyx_t ST, rfl⟩, false, rfl, ?_⟩
      refine ⟨.ref p1, rfl, .ref m, rfl, m, _, 0, _, rfl, rfl, ST, rfl, p1, dx, _, rfl, hp, RhsT.six T.i_Piece (show "str" ∈ six by decide) (.base (.str _)), p1, q1, M, _, .str M.name, false, rfl, I.one, hz, ok, .inr ⟨"str", by decide, .base (.str _), rfl⟩, false, rfl, ?_⟩
      refine ⟨.ref p1, rfl, p1, dx, _, rfl, hp, RhsT.six T.i_Piece (show "NoneType" ∈ six by decide) (.base .non), p1, q1, M, _, .non, false, rfl, I.one, hz, ok, .inr ⟨"NoneType", by decide, .base .non, rfl⟩, false, rfl, ?_⟩
      refine ⟨(by show 6 ≤ sizeLine; decide), fun u hu => ?_⟩
      have s1 : Same G (upd G u (.lst [V.bl true, V.bl (!true), V.bl true, V.bl false, V.bl false, V.bl false])) := Same.new hu
      have e1 : (upd G u (.lst [V.bl true, V.bl (!true), V.bl true, V.bl false, V.bl false, V.bl false])) u = some (.lst [V.bl true, V.bl (!true), V.bl true, V.bl false, V.bl false, V.bl false]) := upd_same
      generalize upd G u (.lst [V.bl true, V.bl (!true), V.bl true, V.bl false, V.bl false, V.bl false]) = G1 at s1 e1 ⊢
      refine ⟨.ref u, rfl, (by show 6 ≤ sizeLine; decide), fun v hv => ?_⟩
      have s2 : Same G1 (upd G1 v (.lst [V.bl true, V.bl false, V.bl true, V.bl false, V.bl false, V.bl false])) := Same.new hv
      have e2 : (upd G1 v (.lst [V.bl true, V.bl false, V.bl true, V.bl false, V.bl false, V.bl false])) v = some (.lst [V.bl true, V.bl false, V.bl true, V.bl false, V.bl false, V.bl false]) := upd_same
      generalize upd G1 v (.lst [V.bl true, V.bl false, V.bl true, V.bl false, V.bl false, V.bl false]) = G2 at s2 e2 ⊢
      refine ⟨.ref u, .ref v, rfl, Eqd.of (SqL.of (s2 _ _ e1)) (SqL.of e2) (.cons (.flat rfl) (.cons (.flat rfl) (.cons (.flat rfl) (.cons (.flat rfl) (.cons (.flat rfl) (.cons (.flat rfl) .nil)))))) (by show 6 ≤ 100000; decide), fun G3 s3 => ⟨true, rfl, iteF ?_⟩⟩
      replace I := (I.same (s1.trans s2)).same s3
      clear hp hq Rp hp' hq' Rp' em el R ST r1 r2 s1 e1 s2 e2 s3 hu hv
      -- the other models
      refine ⟨.ref b, rfl, .ref m, rfl, .ref t, rfl, b, m, t, lot, z0, zb, zr, M, rfl, I.tls.1, n01, hz, I.mod, ok, fun G4 f us s4 f0 O4 l4 => ?_⟩
      replace I := I.same s4
      refine ⟨f, rfl, ⟨us, SqL.of O4.1⟩, for_it walk_list (fun j σ H' => ∃ (y11 y12 : Option V), σ = [some (.ref a), some (.ref b), some (.ref t), some (.int (0 + (i : Int))), some (.ref m), some (.ref g), some (.ref p1), some (.ref p2), y8, y9, some (.ref u), y11, y12, none, none] ∧ Same G4 H') ⟨_, _, rfl, Same.refl _⟩ (fun _ _ G _ ⟨_, _, _, sG⟩ => sG.seq (SqL.of O4.1)) ?_ ?_⟩
      · rintro j x σ G5 G6 hj ⟨y11, y12, rfl, s5⟩ ⟨rfl, hx⟩
        obtain ⟨mi, loti, Mi, rfl, MQ, _, oki, g1, g2⟩ := O4.2 x (List.mem_of_getElem? hx)
        refine ⟨.ref mi, rfl, mi, loti, _, Mi, rfl, MQ.same s5, hz, oki, fun G7 p q s7 PQ _ _ => ?_⟩
        have s57 := s5.trans s7
        have J := I.same s57
        obtain ⟨dx, ap, hp, hq, Rp⟩ := id J.one
        obtain ⟨dx', ap', hp', hq', Rp'⟩ := id PQ
        refine ⟨.ref p, rfl, .ref p1, rfl, p, dx', _, rfl, hp', RhsT.ins T.i_Piece hp, p, q, Mi, _, .ref p1, false, rfl, PQ, hz, oki, .inl ⟨p1, q1, M, rfl, J.one, ok, g1.symm⟩, false, rfl, false, rfl, iteF ?_⟩
        refine ⟨.ref p1, rfl, .ref p, rfl, p1, dx, _, rfl, hp, RhsT.ins T.i_Piece hp', p1, q1, M, _, .ref p, false, rfl, J.one, hz, ok, .inl ⟨p, q, Mi, rfl, PQ, oki, g2.symm⟩, false, rfl, false, rfl, iteF ?_⟩
        refine ⟨.ref p, rfl, .ref mi, rfl, p, q, mi, loti, _, Mi, rfl, PQ, MQ.same s57, hz, oki, fun G8 s8 => ⟨true, rfl, iteF ?_⟩⟩
        exact ⟨_, _, rfl, s57.trans s8⟩
      · rintro σ G5 ⟨y11, y12, rfl, s5⟩
        exact ⟨_, _, _, _, _, _, _, _, _, _, rfl, (I.same s5).bag, (I.same s5).tls⟩
    · rintro σ H2 ⟨y3, y4, y5, y6, y7, y8, y9, y10, y11, y12, rfl, B2, T2⟩
      refine ⟨.ref t, rfl, t, _, 0, .str z0, rfl, rfl, SqL.of T2.1, atI_nat (j := 0) rfl, (by show 1 ≤ sizeLine; decide), fun h hh => ?_⟩
      have m0 : z0 ∈ z0 :: zb :: zr := List.mem_cons_self ..
      have m1 : zb ∈ z0 :: zb :: zr := List.mem_cons_of_mem _ (List.mem_cons_self ..)
      have rh : RowOf (z0 :: zb :: zr) "code" [.str "halt"] := by
        unfold RowOf
        rw [if_pos rfl]
        exact .halt
      have ok0 : (PM.mk z0 "code" [[.str "halt"]] 1 "local" false).Ok (z0 :: zb :: zr) := ⟨hz _ m0, .inl rfl, mem1 rh, by show 1 ≤ 16; decide, fun _ => ⟨[], _, rfl, by decide +kernel⟩, by show (1 : Int) ∈ ([1, 2, 4, 8, 16] : List Int); decide, by show ("local" : Str) ∈ (["local", "export", "open", "weak"] : List Str); decide +kernel, fun _ => by show ("local" : Str) ≠ "open"; decide +kernel⟩
      have ok1 : (PM.mk zb "data" [] 1 "local" false).Ok (z0 :: zb :: zr) := ⟨hz _ m1, .inr rfl, mem0, by show 0 ≤ 16; decide, fun e => absurd (show ("data" : Str) = "code" from e) (by decide +kernel), by show (1 : Int) ∈ ([1, 2, 4, 8, 16] : List Int); decide, by show ("local" : Str) ∈ (["local", "export", "open", "weak"] : List Str); decide +kernel, fun _ => by show ("local" : Str) ≠ "open"; decide +kernel⟩
      have s3 : Same H2 (upd H2 h (.tup [V.str "halt"])) := Same.new hh
      have e3 : (upd H2 h (.tup [V.str "halt"])) h = some (.tup [V.str "halt"]) := upd_same
      generalize upd H2 h (.tup [V.str "halt"]) = H3 at s3 e3 ⊢
      refine ⟨(by show 1 ≤ sizeLine; decide), fun g hg => ?_⟩
      have s4 : Same H3 (upd H3 g (.lst [V.ref h])) := Same.new hg
      have e4 : (upd H3 g (.lst [V.ref h])) g = some (.lst [V.ref h]) := upd_same
      generalize upd H3 g (.lst [V.ref h]) = H4 at s4 e4 ⊢
      intro p1 dx1 hx1 hd1 nd1
      have s5 := made_same0 (C := Z.C_Piece) hx1 hd1
      refine ⟨p1, g, dx1, [h], _, ⟨z0, "code", [[.str "halt"]], 1, "local", false⟩, rfl, upd_same, hz, ok0, .inl (s5.seq (SqL.of e4)), .cons (s5 _ _ (s4 _ _ e3)) .nil, ne_of_none e4 hx1, fun H5 q1 s5' PQ1 hq1 => ⟨rfl, ?_⟩⟩
      replace s5 := (s3.trans s4).trans (made_same (H1 := H4) hx1 hd1 s5')
      have T5 := T2.same s5
      refine ⟨.ref t, rfl, t, _, 1, .str zb, rfl, rfl, SqL.of T5.1, atI_nat (j := 1) rfl, (by show 0 ≤ sizeLine; decide), fun g2 hg2 => ?_⟩
      have s6 : Same H5 (upd H5 g2 (.tup [])) := Same.new hg2
      have e6 : (upd H5 g2 (.tup [])) g2 = some (.tup []) := upd_same
      generalize upd H5 g2 (.tup []) = H6 at s6 e6 ⊢
      intro p2 dx2 hx2 hd2 nd2
      have s7 := made_same0 (C := Z.C_Piece) hx2 hd2
      refine ⟨p2, g2, dx2, [], _, ⟨zb, "data", [], 1, "local", false⟩, rfl, upd_same, hz, ok1, .inr (SqT.of (s7 _ _ e6)), .nil, ne_of_none e6 hx2, fun H7 q2 s7' PQ2 hq2 => ⟨rfl, ?_⟩⟩
      replace s7 := s6.trans (made_same (H1 := H6) hx2 hd2 s7')
      have T7 := T5.same s7
      refine ⟨_, _, rfl, ?_⟩
      refine ⟨.ref p1, rfl, .ref t, rfl, t, _, 0, .str z0, rfl, rfl, SqL.of T7.1, atI_nat (j := 0) rfl, (by show 1 ≤ sizeLine; decide), fun h8 hh8 => ?_⟩
      have s8 : Same H7 (upd H7 h8 (.tup [V.str "halt"])) := Same.new hh8
      have e8 : (upd H7 h8 (.tup [V.str "halt"])) h8 = some (.tup [V.str "halt"]) := upd_same
      generalize upd H7 h8 (.tup [V.str "halt"]) = H8 at s8 e8 ⊢
      refine ⟨(by show 1 ≤ sizeLine; decide), fun g9 hg9 => ?_⟩
      have s9 : Same H8 (upd H8 g9 (.lst [V.ref h8])) := Same.new hg9
      have e9 : (upd H8 g9 (.lst [V.ref h8])) g9 = some (.lst [V.ref h8]) := upd_same
      generalize upd H8 g9 (.lst [V.ref h8]) = H9 at s9 e9 ⊢
      refine ⟨(by show 6 ≤ sizeLine; decide), fun m9 hm9 => ?_⟩
      have s10 : Same H9 (upd H9 m9 (.tup [V.str z0, V.str "code", V.ref g9, V.int 1, V.str "local", V.bl false])) := Same.new hm9
      have e10 : (upd H9 m9 (.tup [V.str z0, V.str "code", V.ref g9, V.int 1, V.str "local", V.bl false])) m9 = some (.tup [V.str z0, V.str "code", V.ref g9, V.int 1, V.str "local", V.bl false]) := upd_same
      generalize upd H9 m9 (.tup [V.str z0, V.str "code", V.ref g9, V.int 1, V.str "local", V.bl false]) = H10 at s10 e10 ⊢
      have s710 := (s8.trans s9).trans s10
      refine ⟨p1, q1, m9, g9, _, ⟨z0, "code", [[.str "halt"]], 1, "local", false⟩, rfl, (PQ1.same s7).same s710, ⟨[h8], e10, s10 _ _ e9, .cons (s10 _ _ (s9 _ _ e8)) .nil⟩, hz, ok0, fun H11 s11 => ⟨true, rfl, iteT ?_⟩⟩
      have s711 := s710.trans s11
      have T11 := T7.same s711
      refine ⟨.ref p2, rfl, .ref t, rfl, t, _, 1, .str zb, rfl, rfl, SqL.of T11.1, atI_nat (j := 1) rfl, (by show 0 ≤ sizeLine; decide), fun g12 hg12 => ?_⟩
      have s12 : Same H11 (upd H11 g12 (.lst [])) := Same.new hg12
      have e12 : (upd H11 g12 (.lst [])) g12 = some (.lst []) := upd_same
      generalize upd H11 g12 (.lst []) = H12 at s12 e12 ⊢
      refine ⟨(by show 6 ≤ sizeLine; decide), fun m12 hm12 => ?_⟩
      have s13 : Same H12 (upd H12 m12 (.tup [V.str zb, V.str "data", V.ref g12, V.int 1, V.str "local", V.bl false])) := Same.new hm12
      have e13 : (upd H12 m12 (.tup [V.str zb, V.str "data", V.ref g12, V.int 1, V.str "local", V.bl false])) m12 = some (.tup [V.str zb, V.str "data", V.ref g12, V.int 1, V.str "local", V.bl false]) := upd_same
      generalize upd H12 m12 (.tup [V.str zb, V.str "data", V.ref g12, V.int 1, V.str "local", V.bl false]) = H13 at s13 e13 ⊢
      exact ⟨p2, q2, m12, g12, _, ⟨zb, "data", [], 1, "local", false⟩, rfl, PQ2.same (s711.trans (s12.trans s13)), ⟨[], e13, s13 _ _ e12, .nil⟩, hz, ok1, fun H14 _ => k H14⟩
end

/-! ### what the top has written, the head -/
theorem all_mk {l : PySem.W.OpenLaw} {w : World} {K : PySem.W.Frag} {h : Heap} {mg : Str → Option Value} {fa : Addr} (X : K.In h) (G : h.Ns mainGlobals mg) (hfa : mg "law" = some (.ref fa))
    {f_is_name f_is_register f_is_number f_is_code_row f_is_data_row f_is_row_of f_is_closing f_word_of f_fit f_fits f_Piece___init__ f_Piece_rows f_Piece_is_shared f_Piece_is_strong f_Piece___eq__ f_Piece___len__ f_Piece___bool__ f_Piece___repr__ f_is_part f_is_alignment f_is_scope_of f_ends_closing f_check_rows f_law_bag f_law_draw f_law_of f_law_same f_law_titles f_law_number f_law_r f_law_code_row f_law_last_row f_law_data_row f_law_piece_model f_law_piece f_law_told_so f_law_others f_law f_C_Piece q_REGISTERS q_CODE_ROWS q_DATA_ROWS q_BOUNDS q_CLOSING q_PARTS q_ALIGNMENTS q_SCOPES q_STRONG : Addr}
    {od_is_name an_is_name od_is_register an_is_register od_is_number an_is_number od_is_code_row an_is_code_row od_is_data_row an_is_data_row od_is_row_of an_is_row_of od_is_closing an_is_closing od_word_of an_word_of od_fit an_fit od_fits an_fits od_Piece___init__ an_Piece___init__ od_Piece_rows an_Piece_rows od_Piece_is_shared an_Piece_is_shared od_Piece_is_strong an_Piece_is_strong od_Piece___eq__ an_Piece___eq__ od_Piece___len__ an_Piece___len__ od_Piece___bool__ an_Piece___bool__ od_Piece___repr__ an_Piece___repr__ od_is_part an_is_part od_is_alignment an_is_alignment od_is_scope_of an_is_scope_of od_ends_closing an_ends_closing od_check_rows an_check_rows od_law_bag an_law_bag od_law_draw an_law_draw od_law_of an_law_of od_law_same an_law_same od_law_titles an_law_titles od_law_number an_law_number od_law_r an_law_r od_law_code_row an_law_code_row od_law_last_row an_law_last_row od_law_data_row an_law_data_row od_law_piece_model an_law_piece_model od_law_piece an_law_piece od_law_told_so an_law_told_so od_law_others an_law_others od_law an_law : Option Addr} {sl_is_name sl_is_register sl_is_number sl_is_code_row sl_is_data_row sl_is_row_of sl_is_closing sl_word_of sl_fit sl_fits sl_Piece___init__ sl_Piece_rows sl_Piece_is_shared sl_Piece_is_strong sl_Piece___eq__ sl_Piece___len__ sl_Piece___bool__ sl_Piece___repr__ sl_is_part sl_is_alignment sl_is_scope_of sl_ends_closing sl_check_rows sl_law_bag sl_law_draw sl_law_of sl_law_same sl_law_titles sl_law_number sl_law_r sl_law_code_row sl_law_last_row sl_law_data_row sl_law_piece_model sl_law_piece sl_law_told_so sl_law_others sl_law : Array (Option Value)} {oc_is_name kV_is_name dc_is_name pm_is_name cd_is_name ct_is_name oc_is_register kV_is_register dc_is_register pm_is_register cd_is_register ct_is_register oc_is_number kV_is_number dc_is_number pm_is_number cd_is_number ct_is_number oc_is_code_row kV_is_code_row dc_is_code_row pm_is_code_row cd_is_code_row ct_is_code_row oc_is_data_row kV_is_data_row dc_is_data_row pm_is_data_row cd_is_data_row ct_is_data_row oc_is_row_of kV_is_row_of dc_is_row_of pm_is_row_of cd_is_row_of ct_is_row_of oc_is_closing kV_is_closing dc_is_closing pm_is_closing cd_is_closing ct_is_closing oc_word_of kV_word_of dc_word_of pm_word_of cd_word_of ct_word_of oc_fit kV_fit dc_fit pm_fit cd_fit ct_fit oc_fits kV_fits dc_fits pm_fits cd_fits ct_fits oc_Piece___init__ dc_Piece___init__ pm_Piece___init__ cd_Piece___init__ ct_Piece___init__ oc_Piece_rows kV_Piece_rows dc_Piece_rows pm_Piece_rows cd_Piece_rows ct_Piece_rows oc_Piece_is_shared kV_Piece_is_shared dc_Piece_is_shared pm_Piece_is_shared cd_Piece_is_shared ct_Piece_is_shared oc_Piece_is_strong kV_Piece_is_strong dc_Piece_is_strong pm_Piece_is_strong cd_Piece_is_strong ct_Piece_is_strong oc_Piece___eq__ kV_Piece___eq__ dc_Piece___eq__ pm_Piece___eq__ cd_Piece___eq__ ct_Piece___eq__ oc_Piece___len__ kV_Piece___len__ dc_Piece___len__ pm_Piece___len__ cd_Piece___len__ ct_Piece___len__ oc_Piece___bool__ kV_Piece___bool__ dc_Piece___bool__ pm_Piece___bool__ cd_Piece___bool__ ct_Piece___bool__ oc_Piece___repr__ kV_Piece___repr__ dc_Piece___repr__ pm_Piece___repr__ cd_Piece___repr__ ct_Piece___repr__ oc_is_part kV_is_part dc_is_part pm_is_part cd_is_part ct_is_part oc_is_alignment kV_is_alignment dc_is_alignment pm_is_alignment cd_is_alignment ct_is_alignment oc_is_scope_of kV_is_scope_of dc_is_scope_of pm_is_scope_of cd_is_scope_of ct_is_scope_of oc_ends_closing kV_ends_closing dc_ends_closing pm_ends_closing cd_ends_closing ct_ends_closing oc_check_rows kV_check_rows dc_check_rows pm_check_rows cd_check_rows ct_check_rows oc_law_bag kV_law_bag dc_law_bag pm_law_bag cd_law_bag ct_law_bag oc_law_draw kV_law_draw dc_law_draw pm_law_draw cd_law_draw ct_law_draw oc_law_of kV_law_of dc_law_of pm_law_of cd_law_of ct_law_of oc_law_same kV_law_same dc_law_same pm_law_same cd_law_same ct_law_same oc_law_titles kV_law_titles dc_law_titles pm_law_titles cd_law_titles ct_law_titles oc_law_number kV_law_number dc_law_number pm_law_number cd_law_number ct_law_number oc_law_r kV_law_r dc_law_r pm_law_r cd_law_r ct_law_r oc_law_code_row kV_law_code_row dc_law_code_row pm_law_code_row cd_law_code_row ct_law_code_row oc_law_last_row kV_law_last_row dc_law_last_row pm_law_last_row cd_law_last_row ct_law_last_row oc_law_data_row kV_law_data_row dc_law_data_row pm_law_data_row cd_law_data_row ct_law_data_row oc_law_piece_model kV_law_piece_model dc_law_piece_model pm_law_piece_model cd_law_piece_model ct_law_piece_model oc_law_piece kV_law_piece dc_law_piece pm_law_piece cd_law_piece ct_law_piece oc_law_told_so kV_law_told_so dc_law_told_so pm_law_told_so cd_law_told_so ct_law_told_so oc_law_others kV_law_others dc_law_others pm_law_others cd_law_others ct_law_others oc_law kV_law dc_law pm_law cd_law ct_law : Value}
    (a_is_name : PySem.W.nsIn K mainGlobals "is_name" = some (some (.ref f_is_name))) (l_is_name : K.lookup f_is_name = some ⟨oc_is_name, od_is_name, .func (PySem.W.fnOf "is_name" "is_name" (defArgs s_is_name) (defBody s_is_name) (defScope s_is_name) .none kV_is_name dc_is_name pm_is_name an_is_name cd_is_name ct_is_name), sl_is_name⟩) (c_is_name : PySem.W.codeIn K cd_is_name "is_name" = true) (k_is_name : PySem.W.keepIn K (.ref f_is_name) = true)
    (a_is_register : PySem.W.nsIn K mainGlobals "is_register" = some (some (.ref f_is_register))) (l_is_register : K.lookup f_is_register = some ⟨oc_is_register, od_is_register, .func (PySem.W.fnOf "is_register" "is_register" (defArgs s_is_register) (defBody s_is_register) (defScope s_is_register) .none kV_is_register dc_is_register pm_is_register an_is_register cd_is_register ct_is_register), sl_is_register⟩) (c_is_register : PySem.W.codeIn K cd_is_register "is_register" = true) (k_is_register : PySem.W.keepIn K (.ref f_is_register) = true)
    (a_is_number : PySem.W.nsIn K mainGlobals "is_number" = some (some (.ref f_is_number))) (l_is_number : K.lookup f_is_number = some ⟨oc_is_number, od_is_number, .func (PySem.W.fnOf "is_number" "is_number" (defArgs s_is_number) (defBody s_is_number) (defScope s_is_number) .none kV_is_number dc_is_number pm_is_number an_is_number cd_is_number ct_is_number), sl_is_number⟩) (c_is_number : PySem.W.codeIn K cd_is_number "is_number" = true) (k_is_number : PySem.W.keepIn K (.ref f_is_number) = true)
    (a_is_code_row : PySem.W.nsIn K mainGlobals "is_code_row" = some (some (.ref f_is_code_row))) (l_is_code_row : K.lookup f_is_code_row = some ⟨oc_is_code_row, od_is_code_row, .func (PySem.W.fnOf "is_code_row" "is_code_row" (defArgs s_is_code_row) (defBody s_is_code_row) (defScope s_is_code_row) .none kV_is_code_row dc_is_code_row pm_is_code_row an_is_code_row cd_is_code_row ct_is_code_row), sl_is_code_row⟩) (c_is_code_row : PySem.W.codeIn K cd_is_code_row "is_code_row" = true) (k_is_code_row : PySem.W.keepIn K (.ref f_is_code_row) = true)
    (a_is_data_row : PySem.W.nsIn K mainGlobals "is_data_row" = some (some (.ref f_is_data_row))) (l_is_data_row : K.lookup f_is_data_row = some ⟨oc_is_data_row, od_is_data_row, .func (PySem.W.fnOf "is_data_row" "is_data_row" (defArgs s_is_data_row) (defBody s_is_data_row) (defScope s_is_data_row) .none kV_is_data_row dc_is_data_row pm_is_data_row an_is_data_row cd_is_data_row ct_is_data_row), sl_is_data_row⟩) (c_is_data_row : PySem.W.codeIn K cd_is_data_row "is_data_row" = true) (k_is_data_row : PySem.W.keepIn K (.ref f_is_data_row) = true)
    (a_is_row_of : PySem.W.nsIn K mainGlobals "is_row_of" = some (some (.ref f_is_row_of))) (l_is_row_of : K.lookup f_is_row_of = some ⟨oc_is_row_of, od_is_row_of, .func (PySem.W.fnOf "is_row_of" "is_row_of" (defArgs s_is_row_of) (defBody s_is_row_of) (defScope s_is_row_of) .none kV_is_row_of dc_is_row_of pm_is_row_of an_is_row_of cd_is_row_of ct_is_row_of), sl_is_row_of⟩) (c_is_row_of : PySem.W.codeIn K cd_is_row_of "is_row_of" = true) (k_is_row_of : PySem.W.keepIn K (.ref f_is_row_of) = true)
    (a_is_closing : PySem.W.nsIn K mainGlobals "is_closing" = some (some (.ref f_is_closing))) (l_is_closing : K.lookup f_is_closing = some ⟨oc_is_closing, od_is_closing, .func (PySem.W.fnOf "is_closing" "is_closing" (defArgs s_is_closing) (defBody s_is_closing) (defScope s_is_closing) .none kV_is_closing dc_is_closing pm_is_closing an_is_closing cd_is_closing ct_is_closing), sl_is_closing⟩) (c_is_closing : PySem.W.codeIn K cd_is_closing "is_closing" = true) (k_is_closing : PySem.W.keepIn K (.ref f_is_closing) = true)
    (a_word_of : PySem.W.nsIn K mainGlobals "_word_of" = some (some (.ref f_word_of))) (l_word_of : K.lookup f_word_of = some ⟨oc_word_of, od_word_of, .func (PySem.W.fnOf "_word_of" "_word_of" (defArgs s_word_of) (defBody s_word_of) (defScope s_word_of) .none kV_word_of dc_word_of pm_word_of an_word_of cd_word_of ct_word_of), sl_word_of⟩) (c_word_of : PySem.W.codeIn K cd_word_of "_word_of" = true) (k_word_of : PySem.W.keepIn K (.ref f_word_of) = true)
    (a_fit : PySem.W.nsIn K mainGlobals "_fit" = some (some (.ref f_fit))) (l_fit : K.lookup f_fit = some ⟨oc_fit, od_fit, .func (PySem.W.fnOf "_fit" "_fit" (defArgs s_fit) (defBody s_fit) (defScope s_fit) .none kV_fit dc_fit pm_fit an_fit cd_fit ct_fit), sl_fit⟩) (c_fit : PySem.W.codeIn K cd_fit "_fit" = true) (k_fit : PySem.W.keepIn K (.ref f_fit) = true)
    (a_fits : PySem.W.nsIn K mainGlobals "_fits" = some (some (.ref f_fits))) (l_fits : K.lookup f_fits = some ⟨oc_fits, od_fits, .func (PySem.W.fnOf "_fits" "_fits" (defArgs s_fits) (defBody s_fits) (defScope s_fits) .none kV_fits dc_fits pm_fits an_fits cd_fits ct_fits), sl_fits⟩) (c_fits : PySem.W.codeIn K cd_fits "_fits" = true) (k_fits : PySem.W.keepIn K (.ref f_fits) = true)
    {kd_Piece___init__ : Addr} {ku_Piece___init___alignment : Tok} {ku_Piece___init___scope : Tok}
    (a_Piece___init__ : PySem.W.findIn K (.ref f_C_Piece) "__init__" = some (some (.ref f_Piece___init__))) (i_Piece___init__ : PySem.W.isFn K (.ref f_Piece___init__) = true) (l_Piece___init__ : K.lookup f_Piece___init__ = some ⟨oc_Piece___init__, od_Piece___init__, .func (PySem.W.fnOf "__init__" "Piece.__init__" (defArgs s_Piece___init__) (defBody s_Piece___init__) (defScope s_Piece___init__) .none (.ref kd_Piece___init__) dc_Piece___init__ pm_Piece___init__ an_Piece___init__ cd_Piece___init__ ct_Piece___init__), sl_Piece___init__⟩) (c_Piece___init__ : PySem.W.codeIn K cd_Piece___init__ "Piece.__init__" = true) (k_Piece___init__ : PySem.W.keepIn K (.ref f_Piece___init__) = true)
    (kw_Piece___init___alignment : PySem.W.nsIn K kd_Piece___init__ "alignment" = some (some (Value.int 1 ku_Piece___init___alignment)))
    (kw_Piece___init___scope : PySem.W.nsIn K kd_Piece___init__ "scope" = some (some (Value.str "local" ku_Piece___init___scope)))
    (kw_Piece___init___keep : PySem.W.nsIn K kd_Piece___init__ "keep" = some (some (Value.bool false)))
    (a_Piece_rows : PySem.W.findIn K (.ref f_C_Piece) "rows" = some (some (.ref f_Piece_rows))) (i_Piece_rows : PySem.W.isFn K (.ref f_Piece_rows) = true) (l_Piece_rows : K.lookup f_Piece_rows = some ⟨oc_Piece_rows, od_Piece_rows, .func (PySem.W.fnOf "rows" "Piece.rows" (defArgs s_Piece_rows) (defBody s_Piece_rows) (defScope s_Piece_rows) .none kV_Piece_rows dc_Piece_rows pm_Piece_rows an_Piece_rows cd_Piece_rows ct_Piece_rows), sl_Piece_rows⟩) (c_Piece_rows : PySem.W.codeIn K cd_Piece_rows "Piece.rows" = true) (k_Piece_rows : PySem.W.keepIn K (.ref f_Piece_rows) = true)
    (a_Piece_is_shared : PySem.W.findIn K (.ref f_C_Piece) "is_shared" = some (some (.ref f_Piece_is_shared))) (i_Piece_is_shared : PySem.W.isFn K (.ref f_Piece_is_shared) = true) (l_Piece_is_shared : K.lookup f_Piece_is_shared = some ⟨oc_Piece_is_shared, od_Piece_is_shared, .func (PySem.W.fnOf "is_shared" "Piece.is_shared" (defArgs s_Piece_is_shared) (defBody s_Piece_is_shared) (defScope s_Piece_is_shared) .none kV_Piece_is_shared dc_Piece_is_shared pm_Piece_is_shared an_Piece_is_shared cd_Piece_is_shared ct_Piece_is_shared), sl_Piece_is_shared⟩) (c_Piece_is_shared : PySem.W.codeIn K cd_Piece_is_shared "Piece.is_shared" = true) (k_Piece_is_shared : PySem.W.keepIn K (.ref f_Piece_is_shared) = true)
    (a_Piece_is_strong : PySem.W.findIn K (.ref f_C_Piece) "is_strong" = some (some (.ref f_Piece_is_strong))) (i_Piece_is_strong : PySem.W.isFn K (.ref f_Piece_is_strong) = true) (l_Piece_is_strong : K.lookup f_Piece_is_strong = some ⟨oc_Piece_is_strong, od_Piece_is_strong, .func (PySem.W.fnOf "is_strong" "Piece.is_strong" (defArgs s_Piece_is_strong) (defBody s_Piece_is_strong) (defScope s_Piece_is_strong) .none kV_Piece_is_strong dc_Piece_is_strong pm_Piece_is_strong an_Piece_is_strong cd_Piece_is_strong ct_Piece_is_strong), sl_Piece_is_strong⟩) (c_Piece_is_strong : PySem.W.codeIn K cd_Piece_is_strong "Piece.is_strong" = true) (k_Piece_is_strong : PySem.W.keepIn K (.ref f_Piece_is_strong) = true)
    (a_Piece___eq__ : PySem.W.findIn K (.ref f_C_Piece) "__eq__" = some (some (.ref f_Piece___eq__))) (i_Piece___eq__ : PySem.W.isFn K (.ref f_Piece___eq__) = true) (l_Piece___eq__ : K.lookup f_Piece___eq__ = some ⟨oc_Piece___eq__, od_Piece___eq__, .func (PySem.W.fnOf "__eq__" "Piece.__eq__" (defArgs s_Piece___eq__) (defBody s_Piece___eq__) (defScope s_Piece___eq__) .none kV_Piece___eq__ dc_Piece___eq__ pm_Piece___eq__ an_Piece___eq__ cd_Piece___eq__ ct_Piece___eq__), sl_Piece___eq__⟩) (c_Piece___eq__ : PySem.W.codeIn K cd_Piece___eq__ "Piece.__eq__" = true) (k_Piece___eq__ : PySem.W.keepIn K (.ref f_Piece___eq__) = true)
    (a_Piece___len__ : PySem.W.findIn K (.ref f_C_Piece) "__len__" = some (some (.ref f_Piece___len__))) (i_Piece___len__ : PySem.W.isFn K (.ref f_Piece___len__) = true) (l_Piece___len__ : K.lookup f_Piece___len__ = some ⟨oc_Piece___len__, od_Piece___len__, .func (PySem.W.fnOf "__len__" "Piece.__len__" (defArgs s_Piece___len__) (defBody s_Piece___len__) (defScope s_Piece___len__) .none kV_Piece___len__ dc_Piece___len__ pm_Piece___len__ an_Piece___len__ cd_Piece___len__ ct_Piece___len__), sl_Piece___len__⟩) (c_Piece___len__ : PySem.W.codeIn K cd_Piece___len__ "Piece.__len__" = true) (k_Piece___len__ : PySem.W.keepIn K (.ref f_Piece___len__) = true)
    (a_Piece___bool__ : PySem.W.findIn K (.ref f_C_Piece) "__bool__" = some (some (.ref f_Piece___bool__))) (i_Piece___bool__ : PySem.W.isFn K (.ref f_Piece___bool__) = true) (l_Piece___bool__ : K.lookup f_Piece___bool__ = some ⟨oc_Piece___bool__, od_Piece___bool__, .func (PySem.W.fnOf "__bool__" "Piece.__bool__" (defArgs s_Piece___bool__) (defBody s_Piece___bool__) (defScope s_Piece___bool__) .none kV_Piece___bool__ dc_Piece___bool__ pm_Piece___bool__ an_Piece___bool__ cd_Piece___bool__ ct_Piece___bool__), sl_Piece___bool__⟩) (c_Piece___bool__ : PySem.W.codeIn K cd_Piece___bool__ "Piece.__bool__" = true) (k_Piece___bool__ : PySem.W.keepIn K (.ref f_Piece___bool__) = true)
    (a_Piece___repr__ : PySem.W.findIn K (.ref f_C_Piece) "__repr__" = some (some (.ref f_Piece___repr__))) (i_Piece___repr__ : PySem.W.isFn K (.ref f_Piece___repr__) = true) (l_Piece___repr__ : K.lookup f_Piece___repr__ = some ⟨oc_Piece___repr__, od_Piece___repr__, .func (PySem.W.fnOf "__repr__" "Piece.__repr__" (defArgs s_Piece___repr__) (defBody s_Piece___repr__) (defScope s_Piece___repr__) .none kV_Piece___repr__ dc_Piece___repr__ pm_Piece___repr__ an_Piece___repr__ cd_Piece___repr__ ct_Piece___repr__), sl_Piece___repr__⟩) (c_Piece___repr__ : PySem.W.codeIn K cd_Piece___repr__ "Piece.__repr__" = true) (k_Piece___repr__ : PySem.W.keepIn K (.ref f_Piece___repr__) = true)
    (a_is_part : PySem.W.nsIn K mainGlobals "is_part" = some (some (.ref f_is_part))) (l_is_part : K.lookup f_is_part = some ⟨oc_is_part, od_is_part, .func (PySem.W.fnOf "is_part" "is_part" (defArgs s_is_part) (defBody s_is_part) (defScope s_is_part) .none kV_is_part dc_is_part pm_is_part an_is_part cd_is_part ct_is_part), sl_is_part⟩) (c_is_part : PySem.W.codeIn K cd_is_part "is_part" = true) (k_is_part : PySem.W.keepIn K (.ref f_is_part) = true)
    (a_is_alignment : PySem.W.nsIn K mainGlobals "is_alignment" = some (some (.ref f_is_alignment))) (l_is_alignment : K.lookup f_is_alignment = some ⟨oc_is_alignment, od_is_alignment, .func (PySem.W.fnOf "is_alignment" "is_alignment" (defArgs s_is_alignment) (defBody s_is_alignment) (defScope s_is_alignment) .none kV_is_alignment dc_is_alignment pm_is_alignment an_is_alignment cd_is_alignment ct_is_alignment), sl_is_alignment⟩) (c_is_alignment : PySem.W.codeIn K cd_is_alignment "is_alignment" = true) (k_is_alignment : PySem.W.keepIn K (.ref f_is_alignment) = true)
    (a_is_scope_of : PySem.W.nsIn K mainGlobals "is_scope_of" = some (some (.ref f_is_scope_of))) (l_is_scope_of : K.lookup f_is_scope_of = some ⟨oc_is_scope_of, od_is_scope_of, .func (PySem.W.fnOf "is_scope_of" "is_scope_of" (defArgs s_is_scope_of) (defBody s_is_scope_of) (defScope s_is_scope_of) .none kV_is_scope_of dc_is_scope_of pm_is_scope_of an_is_scope_of cd_is_scope_of ct_is_scope_of), sl_is_scope_of⟩) (c_is_scope_of : PySem.W.codeIn K cd_is_scope_of "is_scope_of" = true) (k_is_scope_of : PySem.W.keepIn K (.ref f_is_scope_of) = true)
    (a_ends_closing : PySem.W.nsIn K mainGlobals "ends_closing" = some (some (.ref f_ends_closing))) (l_ends_closing : K.lookup f_ends_closing = some ⟨oc_ends_closing, od_ends_closing, .func (PySem.W.fnOf "ends_closing" "ends_closing" (defArgs s_ends_closing) (defBody s_ends_closing) (defScope s_ends_closing) .none kV_ends_closing dc_ends_closing pm_ends_closing an_ends_closing cd_ends_closing ct_ends_closing), sl_ends_closing⟩) (c_ends_closing : PySem.W.codeIn K cd_ends_closing "ends_closing" = true) (k_ends_closing : PySem.W.keepIn K (.ref f_ends_closing) = true)
    (a_check_rows : PySem.W.nsIn K mainGlobals "_check_rows" = some (some (.ref f_check_rows))) (l_check_rows : K.lookup f_check_rows = some ⟨oc_check_rows, od_check_rows, .func (PySem.W.fnOf "_check_rows" "_check_rows" (defArgs s_check_rows) (defBody s_check_rows) (defScope s_check_rows) .none kV_check_rows dc_check_rows pm_check_rows an_check_rows cd_check_rows ct_check_rows), sl_check_rows⟩) (c_check_rows : PySem.W.codeIn K cd_check_rows "_check_rows" = true) (k_check_rows : PySem.W.keepIn K (.ref f_check_rows) = true)
    (a_law_bag : PySem.W.nsIn K mainGlobals "_law_bag" = some (some (.ref f_law_bag))) (l_law_bag : K.lookup f_law_bag = some ⟨oc_law_bag, od_law_bag, .func (PySem.W.fnOf "_law_bag" "_law_bag" (defArgs s_law_bag) (defBody s_law_bag) (defScope s_law_bag) .none kV_law_bag dc_law_bag pm_law_bag an_law_bag cd_law_bag ct_law_bag), sl_law_bag⟩) (c_law_bag : PySem.W.codeIn K cd_law_bag "_law_bag" = true) (k_law_bag : PySem.W.keepIn K (.ref f_law_bag) = true)
    (a_law_draw : PySem.W.nsIn K mainGlobals "_law_draw" = some (some (.ref f_law_draw))) (l_law_draw : K.lookup f_law_draw = some ⟨oc_law_draw, od_law_draw, .func (PySem.W.fnOf "_law_draw" "_law_draw" (defArgs s_law_draw) (defBody s_law_draw) (defScope s_law_draw) .none kV_law_draw dc_law_draw pm_law_draw an_law_draw cd_law_draw ct_law_draw), sl_law_draw⟩) (c_law_draw : PySem.W.codeIn K cd_law_draw "_law_draw" = true) (k_law_draw : PySem.W.keepIn K (.ref f_law_draw) = true)
    (a_law_of : PySem.W.nsIn K mainGlobals "_law_of" = some (some (.ref f_law_of))) (l_law_of : K.lookup f_law_of = some ⟨oc_law_of, od_law_of, .func (PySem.W.fnOf "_law_of" "_law_of" (defArgs s_law_of) (defBody s_law_of) (defScope s_law_of) .none kV_law_of dc_law_of pm_law_of an_law_of cd_law_of ct_law_of), sl_law_of⟩) (c_law_of : PySem.W.codeIn K cd_law_of "_law_of" = true) (k_law_of : PySem.W.keepIn K (.ref f_law_of) = true)
    (a_law_same : PySem.W.nsIn K mainGlobals "_law_same" = some (some (.ref f_law_same))) (l_law_same : K.lookup f_law_same = some ⟨oc_law_same, od_law_same, .func (PySem.W.fnOf "_law_same" "_law_same" (defArgs s_law_same) (defBody s_law_same) (defScope s_law_same) .none kV_law_same dc_law_same pm_law_same an_law_same cd_law_same ct_law_same), sl_law_same⟩) (c_law_same : PySem.W.codeIn K cd_law_same "_law_same" = true) (k_law_same : PySem.W.keepIn K (.ref f_law_same) = true)
    (a_law_titles : PySem.W.nsIn K mainGlobals "_law_titles" = some (some (.ref f_law_titles))) (l_law_titles : K.lookup f_law_titles = some ⟨oc_law_titles, od_law_titles, .func (PySem.W.fnOf "_law_titles" "_law_titles" (defArgs s_law_titles) (defBody s_law_titles) (defScope s_law_titles) .none kV_law_titles dc_law_titles pm_law_titles an_law_titles cd_law_titles ct_law_titles), sl_law_titles⟩) (c_law_titles : PySem.W.codeIn K cd_law_titles "_law_titles" = true) (k_law_titles : PySem.W.keepIn K (.ref f_law_titles) = true)
    (a_law_number : PySem.W.nsIn K mainGlobals "_law_number" = some (some (.ref f_law_number))) (l_law_number : K.lookup f_law_number = some ⟨oc_law_number, od_law_number, .func (PySem.W.fnOf "_law_number" "_law_number" (defArgs s_law_number) (defBody s_law_number) (defScope s_law_number) .none kV_law_number dc_law_number pm_law_number an_law_number cd_law_number ct_law_number), sl_law_number⟩) (c_law_number : PySem.W.codeIn K cd_law_number "_law_number" = true) (k_law_number : PySem.W.keepIn K (.ref f_law_number) = true)
    (a_law_r : PySem.W.nsIn K mainGlobals "_law_r" = some (some (.ref f_law_r))) (l_law_r : K.lookup f_law_r = some ⟨oc_law_r, od_law_r, .func (PySem.W.fnOf "_law_r" "_law_r" (defArgs s_law_r) (defBody s_law_r) (defScope s_law_r) .none kV_law_r dc_law_r pm_law_r an_law_r cd_law_r ct_law_r), sl_law_r⟩) (c_law_r : PySem.W.codeIn K cd_law_r "_law_r" = true) (k_law_r : PySem.W.keepIn K (.ref f_law_r) = true)
    (a_law_code_row : PySem.W.nsIn K mainGlobals "_law_code_row" = some (some (.ref f_law_code_row))) (l_law_code_row : K.lookup f_law_code_row = some ⟨oc_law_code_row, od_law_code_row, .func (PySem.W.fnOf "_law_code_row" "_law_code_row" (defArgs s_law_code_row) (defBody s_law_code_row) (defScope s_law_code_row) .none kV_law_code_row dc_law_code_row pm_law_code_row an_law_code_row cd_law_code_row ct_law_code_row), sl_law_code_row⟩) (c_law_code_row : PySem.W.codeIn K cd_law_code_row "_law_code_row" = true) (k_law_code_row : PySem.W.keepIn K (.ref f_law_code_row) = true)
    (a_law_last_row : PySem.W.nsIn K mainGlobals "_law_last_row" = some (some (.ref f_law_last_row))) (l_law_last_row : K.lookup f_law_last_row = some ⟨oc_law_last_row, od_law_last_row, .func (PySem.W.fnOf "_law_last_row" "_law_last_row" (defArgs s_law_last_row) (defBody s_law_last_row) (defScope s_law_last_row) .none kV_law_last_row dc_law_last_row pm_law_last_row an_law_last_row cd_law_last_row ct_law_last_row), sl_law_last_row⟩) (c_law_last_row : PySem.W.codeIn K cd_law_last_row "_law_last_row" = true) (k_law_last_row : PySem.W.keepIn K (.ref f_law_last_row) = true)
    (a_law_data_row : PySem.W.nsIn K mainGlobals "_law_data_row" = some (some (.ref f_law_data_row))) (l_law_data_row : K.lookup f_law_data_row = some ⟨oc_law_data_row, od_law_data_row, .func (PySem.W.fnOf "_law_data_row" "_law_data_row" (defArgs s_law_data_row) (defBody s_law_data_row) (defScope s_law_data_row) .none kV_law_data_row dc_law_data_row pm_law_data_row an_law_data_row cd_law_data_row ct_law_data_row), sl_law_data_row⟩) (c_law_data_row : PySem.W.codeIn K cd_law_data_row "_law_data_row" = true) (k_law_data_row : PySem.W.keepIn K (.ref f_law_data_row) = true)
    (a_law_piece_model : PySem.W.nsIn K mainGlobals "_law_piece_model" = some (some (.ref f_law_piece_model))) (l_law_piece_model : K.lookup f_law_piece_model = some ⟨oc_law_piece_model, od_law_piece_model, .func (PySem.W.fnOf "_law_piece_model" "_law_piece_model" (defArgs s_law_piece_model) (defBody s_law_piece_model) (defScope s_law_piece_model) .none kV_law_piece_model dc_law_piece_model pm_law_piece_model an_law_piece_model cd_law_piece_model ct_law_piece_model), sl_law_piece_model⟩) (c_law_piece_model : PySem.W.codeIn K cd_law_piece_model "_law_piece_model" = true) (k_law_piece_model : PySem.W.keepIn K (.ref f_law_piece_model) = true)
    (a_law_piece : PySem.W.nsIn K mainGlobals "_law_piece" = some (some (.ref f_law_piece))) (l_law_piece : K.lookup f_law_piece = some ⟨oc_law_piece, od_law_piece, .func (PySem.W.fnOf "_law_piece" "_law_piece" (defArgs s_law_piece) (defBody s_law_piece) (defScope s_law_piece) .none kV_law_piece dc_law_piece pm_law_piece an_law_piece cd_law_piece ct_law_piece), sl_law_piece⟩) (c_law_piece : PySem.W.codeIn K cd_law_piece "_law_piece" = true) (k_law_piece : PySem.W.keepIn K (.ref f_law_piece) = true)
    (a_law_told_so : PySem.W.nsIn K mainGlobals "_law_told_so" = some (some (.ref f_law_told_so))) (l_law_told_so : K.lookup f_law_told_so = some ⟨oc_law_told_so, od_law_told_so, .func (PySem.W.fnOf "_law_told_so" "_law_told_so" (defArgs s_law_told_so) (defBody s_law_told_so) (defScope s_law_told_so) .none kV_law_told_so dc_law_told_so pm_law_told_so an_law_told_so cd_law_told_so ct_law_told_so), sl_law_told_so⟩) (c_law_told_so : PySem.W.codeIn K cd_law_told_so "_law_told_so" = true) (k_law_told_so : PySem.W.keepIn K (.ref f_law_told_so) = true)
    (a_law_others : PySem.W.nsIn K mainGlobals "_law_others" = some (some (.ref f_law_others))) (l_law_others : K.lookup f_law_others = some ⟨oc_law_others, od_law_others, .func (PySem.W.fnOf "_law_others" "_law_others" (defArgs s_law_others) (defBody s_law_others) (defScope s_law_others) .none kV_law_others dc_law_others pm_law_others an_law_others cd_law_others ct_law_others), sl_law_others⟩) (c_law_others : PySem.W.codeIn K cd_law_others "_law_others" = true) (k_law_others : PySem.W.keepIn K (.ref f_law_others) = true)
    (a_law : PySem.W.nsIn K mainGlobals "law" = some (some (.ref f_law))) (l_law : K.lookup f_law = some ⟨oc_law, od_law, .func (PySem.W.fnOf "law" "law" (defArgs s_law) (defBody s_law) (defScope s_law) .none kV_law dc_law pm_law an_law cd_law ct_law), sl_law⟩) (c_law : PySem.W.codeIn K cd_law "law" = true) (k_law : PySem.W.keepIn K (.ref f_law) = true)
    (aC_Piece : PySem.W.nsIn K mainGlobals "Piece" = some (some (.ref f_C_Piece))) (pg_Piece : PySem.W.plainGet K f_C_Piece Str.empty = true) (hd_Piece : PySem.W.hasDictIn K f_C_Piece = true) (po_Piece : PySem.W.plainOver K f_C_Piece = true) (sa_Piece : PySem.W.findIn K (.ref f_C_Piece) "__setattr__" = some (some (.builtin "object.__setattr__"))) (mkk_Piece : PySem.W.makesIn K f_C_Piece = true) (kc_Piece : PySem.W.keepIn K (.ref f_C_Piece) = true)
    (nf_Piece_name : PySem.W.findIn K (.ref f_C_Piece) "name" = some none)
    (nf_Piece_part : PySem.W.findIn K (.ref f_C_Piece) "part" = some none)
    (nf_Piece_alignment : PySem.W.findIn K (.ref f_C_Piece) "alignment" = some none)
    (nf_Piece_scope : PySem.W.findIn K (.ref f_C_Piece) "scope" = some none)
    (nf_Piece_keep : PySem.W.findIn K (.ref f_C_Piece) "keep" = some none)
    (nf_Piece__rows : PySem.W.findIn K (.ref f_C_Piece) "_rows" = some none)
    (ha_Piece : PySem.W.findIn K (.ref f_C_Piece) "__class__" = some (some (.builtin "object.__class__"))) (hn_Piece : PySem.W.specialIn K (.builtin "object.__class__") "__get__" = some (some (.builtin "getset_descriptor.__get__"))) (htk_Piece : PySem.W.takesIn K (.builtin "object.__class__") = some true) (hm_Piece : PySem.W.mroIn K f_C_Piece (.type "object") = some true) (me_Piece : PySem.W.kitOne K (.ref f_C_Piece) (.ref f_C_Piece) = some true) (ne_Piece : PySem.W.findIn K (.ref f_C_Piece) "__ne__" = some (some (.builtin "object.__ne__")))
    (it_Piece_NoneType : PySem.W.kitOne K (.type "NoneType") (.ref f_C_Piece) = some false)
    (it_Piece_bool : PySem.W.kitOne K (.type "bool") (.ref f_C_Piece) = some false)
    (it_Piece_int : PySem.W.kitOne K (.type "int") (.ref f_C_Piece) = some false)
    (it_Piece_str : PySem.W.kitOne K (.type "str") (.ref f_C_Piece) = some false)
    (it_Piece_list : PySem.W.kitOne K (.type "list") (.ref f_C_Piece) = some false)
    (it_Piece_tuple : PySem.W.kitOne K (.type "tuple") (.ref f_C_Piece) = some false)
    (n_abs : PySem.W.nsIn K mainGlobals "abs" = some none)
    (n_all : PySem.W.nsIn K mainGlobals "all" = some none)
    (n_bool : PySem.W.nsIn K mainGlobals "bool" = some none)
    (n_enumerate : PySem.W.nsIn K mainGlobals "enumerate" = some none)
    (n_int : PySem.W.nsIn K mainGlobals "int" = some none)
    (n_isinstance : PySem.W.nsIn K mainGlobals "isinstance" = some none)
    (n_len : PySem.W.nsIn K mainGlobals "len" = some none)
    (n_list : PySem.W.nsIn K mainGlobals "list" = some none)
    (n_range : PySem.W.nsIn K mainGlobals "range" = some none)
    (n_repr : PySem.W.nsIn K mainGlobals "repr" = some none)
    (n_str : PySem.W.nsIn K mainGlobals "str" = some none)
    (n_tuple : PySem.W.nsIn K mainGlobals "tuple" = some none)
    (n_zip : PySem.W.nsIn K mainGlobals "zip" = some none)
    {tk_MOST_LETTERS : Tok} (g_MOST_LETTERS : PySem.W.nsIn K mainGlobals "MOST_LETTERS" = some (some (.int 6 tk_MOST_LETTERS)))
    (g_REGISTERS : PySem.W.nsIn K mainGlobals "REGISTERS" = some (some (.ref q_REGISTERS)))
    {qi_REGISTERS : Array Value} {qn_REGISTERS : Nat} {qs_REGISTERS : Array (Option Value)} (v_REGISTERS : K.lookup q_REGISTERS = some ⟨.type "tuple", none, .seq qi_REGISTERS qn_REGISTERS, qs_REGISTERS⟩) (w_REGISTERS : Vals [.str "r0", .str "r1", .str "r2"] qi_REGISTERS.toList)
    (g_CODE_ROWS : PySem.W.nsIn K mainGlobals "CODE_ROWS" = some (some (.ref q_CODE_ROWS)))
    (g_DATA_ROWS : PySem.W.nsIn K mainGlobals "DATA_ROWS" = some (some (.ref q_DATA_ROWS)))
    (g_BOUNDS : PySem.W.nsIn K mainGlobals "BOUNDS" = some (some (.ref q_BOUNDS)))
    (g_CLOSING : PySem.W.nsIn K mainGlobals "CLOSING" = some (some (.ref q_CLOSING)))
    {qi_CLOSING : Array Value} {qn_CLOSING : Nat} {qs_CLOSING : Array (Option Value)} (v_CLOSING : K.lookup q_CLOSING = some ⟨.type "tuple", none, .seq qi_CLOSING qn_CLOSING, qs_CLOSING⟩) (w_CLOSING : Vals [.str "jump", .str "halt", .str "back"] qi_CLOSING.toList)
    (g_PARTS : PySem.W.nsIn K mainGlobals "PARTS" = some (some (.ref q_PARTS)))
    {qi_PARTS : Array Value} {qn_PARTS : Nat} {qs_PARTS : Array (Option Value)} (v_PARTS : K.lookup q_PARTS = some ⟨.type "tuple", none, .seq qi_PARTS qn_PARTS, qs_PARTS⟩) (w_PARTS : Vals [.str "code", .str "data"] qi_PARTS.toList)
    (g_ALIGNMENTS : PySem.W.nsIn K mainGlobals "ALIGNMENTS" = some (some (.ref q_ALIGNMENTS)))
    {qi_ALIGNMENTS : Array Value} {qn_ALIGNMENTS : Nat} {qs_ALIGNMENTS : Array (Option Value)} (v_ALIGNMENTS : K.lookup q_ALIGNMENTS = some ⟨.type "tuple", none, .seq qi_ALIGNMENTS qn_ALIGNMENTS, qs_ALIGNMENTS⟩) (w_ALIGNMENTS : Vals [.int 1, .int 2, .int 4, .int 8, .int 16] qi_ALIGNMENTS.toList)
    (g_SCOPES : PySem.W.nsIn K mainGlobals "SCOPES" = some (some (.ref q_SCOPES)))
    {qi_SCOPES : Array Value} {qn_SCOPES : Nat} {qs_SCOPES : Array (Option Value)} (v_SCOPES : K.lookup q_SCOPES = some ⟨.type "tuple", none, .seq qi_SCOPES qn_SCOPES, qs_SCOPES⟩) (w_SCOPES : Vals [.str "local", .str "export", .str "open", .str "weak"] qi_SCOPES.toList)
    (g_STRONG : PySem.W.nsIn K mainGlobals "STRONG" = some (some (.ref q_STRONG)))
    {qi_STRONG : Array Value} {qn_STRONG : Nat} {qs_STRONG : Array (Option Value)} (v_STRONG : K.lookup q_STRONG = some ⟨.type "tuple", none, .seq qi_STRONG qn_STRONG, qs_STRONG⟩) (w_STRONG : Vals [.str "export", .str "open"] qi_STRONG.toList)
    {tk_MOST_ROWS : Tok} (g_MOST_ROWS : PySem.W.nsIn K mainGlobals "MOST_ROWS" = some (some (.int 16 tk_MOST_ROWS)))
    {qe_CODE_ROWS : Array DictEntry} {qz_CODE_ROWS : Nat} (dl_CODE_ROWS : K.lookup q_CODE_ROWS = some ⟨.type "dict", none, .dict qe_CODE_ROWS qz_CODE_ROWS, #[]⟩) (dk_CODE_ROWS : PySem.W.KeysLit w.params qe_CODE_ROWS.toList) (dw_CODE_ROWS : (q_CODE_ROWS == sysModules) = false)
    {t_CODE_ROWS_put : Addr}
    {t_CODE_ROWS_name : Addr}
    {t_CODE_ROWS_add : Addr}
    {t_CODE_ROWS_take : Addr}
    {t_CODE_ROWS_load : Addr}
    {t_CODE_ROWS_store : Addr}
    {t_CODE_ROWS_jump : Addr}
    {t_CODE_ROWS_ifzero : Addr}
    {t_CODE_ROWS_call : Addr}
    {t_CODE_ROWS_callby : Addr}
    {t_CODE_ROWS_back : Addr}
    {t_CODE_ROWS_out : Addr}
    {t_CODE_ROWS_halt : Addr}
    {t_CODE_ROWS_room : Addr}
    (pe_CODE_ROWS : Paired (fun (d : DictEntry) (p : Str × Value) => (∃ t, d.key = .str p.1 t) ∧ d.val = p.2) qe_CODE_ROWS.toList [("put", Value.ref t_CODE_ROWS_put), ("name", Value.ref t_CODE_ROWS_name), ("add", Value.ref t_CODE_ROWS_add), ("take", Value.ref t_CODE_ROWS_take), ("load", Value.ref t_CODE_ROWS_load), ("store", Value.ref t_CODE_ROWS_store), ("jump", Value.ref t_CODE_ROWS_jump), ("ifzero", Value.ref t_CODE_ROWS_ifzero), ("call", Value.ref t_CODE_ROWS_call), ("callby", Value.ref t_CODE_ROWS_callby), ("back", Value.ref t_CODE_ROWS_back), ("out", Value.ref t_CODE_ROWS_out), ("halt", Value.ref t_CODE_ROWS_halt), ("room", Value.ref t_CODE_ROWS_room)])
    {yd_CODE_ROWS_put : Option Addr} {yi_CODE_ROWS_put : Array Value} {yn_CODE_ROWS_put : Nat} {ys_CODE_ROWS_put : Array (Option Value)} (y_CODE_ROWS_put : K.lookup t_CODE_ROWS_put = some ⟨.type "tuple", yd_CODE_ROWS_put, .seq yi_CODE_ROWS_put yn_CODE_ROWS_put, ys_CODE_ROWS_put⟩) (u_CODE_ROWS_put : Vals [.str "R", .str "n"] yi_CODE_ROWS_put.toList)
    {yd_CODE_ROWS_name : Option Addr} {yi_CODE_ROWS_name : Array Value} {yn_CODE_ROWS_name : Nat} {ys_CODE_ROWS_name : Array (Option Value)} (y_CODE_ROWS_name : K.lookup t_CODE_ROWS_name = some ⟨.type "tuple", yd_CODE_ROWS_name, .seq yi_CODE_ROWS_name yn_CODE_ROWS_name, ys_CODE_ROWS_name⟩) (u_CODE_ROWS_name : Vals [.str "R", .str "N"] yi_CODE_ROWS_name.toList)
    {yd_CODE_ROWS_add : Option Addr} {yi_CODE_ROWS_add : Array Value} {yn_CODE_ROWS_add : Nat} {ys_CODE_ROWS_add : Array (Option Value)} (y_CODE_ROWS_add : K.lookup t_CODE_ROWS_add = some ⟨.type "tuple", yd_CODE_ROWS_add, .seq yi_CODE_ROWS_add yn_CODE_ROWS_add, ys_CODE_ROWS_add⟩) (u_CODE_ROWS_add : Vals [.str "R", .str "R"] yi_CODE_ROWS_add.toList)
    {yd_CODE_ROWS_take : Option Addr} {yi_CODE_ROWS_take : Array Value} {yn_CODE_ROWS_take : Nat} {ys_CODE_ROWS_take : Array (Option Value)} (y_CODE_ROWS_take : K.lookup t_CODE_ROWS_take = some ⟨.type "tuple", yd_CODE_ROWS_take, .seq yi_CODE_ROWS_take yn_CODE_ROWS_take, ys_CODE_ROWS_take⟩) (u_CODE_ROWS_take : Vals [.str "R", .str "R"] yi_CODE_ROWS_take.toList)
    {yd_CODE_ROWS_load : Option Addr} {yi_CODE_ROWS_load : Array Value} {yn_CODE_ROWS_load : Nat} {ys_CODE_ROWS_load : Array (Option Value)} (y_CODE_ROWS_load : K.lookup t_CODE_ROWS_load = some ⟨.type "tuple", yd_CODE_ROWS_load, .seq yi_CODE_ROWS_load yn_CODE_ROWS_load, ys_CODE_ROWS_load⟩) (u_CODE_ROWS_load : Vals [.str "R", .str "R", .str "d"] yi_CODE_ROWS_load.toList)
    {yd_CODE_ROWS_store : Option Addr} {yi_CODE_ROWS_store : Array Value} {yn_CODE_ROWS_store : Nat} {ys_CODE_ROWS_store : Array (Option Value)} (y_CODE_ROWS_store : K.lookup t_CODE_ROWS_store = some ⟨.type "tuple", yd_CODE_ROWS_store, .seq yi_CODE_ROWS_store yn_CODE_ROWS_store, ys_CODE_ROWS_store⟩) (u_CODE_ROWS_store : Vals [.str "R", .str "R", .str "d"] yi_CODE_ROWS_store.toList)
    {yd_CODE_ROWS_jump : Option Addr} {yi_CODE_ROWS_jump : Array Value} {yn_CODE_ROWS_jump : Nat} {ys_CODE_ROWS_jump : Array (Option Value)} (y_CODE_ROWS_jump : K.lookup t_CODE_ROWS_jump = some ⟨.type "tuple", yd_CODE_ROWS_jump, .seq yi_CODE_ROWS_jump yn_CODE_ROWS_jump, ys_CODE_ROWS_jump⟩) (u_CODE_ROWS_jump : Vals [.str "N"] yi_CODE_ROWS_jump.toList)
    {yd_CODE_ROWS_ifzero : Option Addr} {yi_CODE_ROWS_ifzero : Array Value} {yn_CODE_ROWS_ifzero : Nat} {ys_CODE_ROWS_ifzero : Array (Option Value)} (y_CODE_ROWS_ifzero : K.lookup t_CODE_ROWS_ifzero = some ⟨.type "tuple", yd_CODE_ROWS_ifzero, .seq yi_CODE_ROWS_ifzero yn_CODE_ROWS_ifzero, ys_CODE_ROWS_ifzero⟩) (u_CODE_ROWS_ifzero : Vals [.str "R", .str "N"] yi_CODE_ROWS_ifzero.toList)
    {yd_CODE_ROWS_call : Option Addr} {yi_CODE_ROWS_call : Array Value} {yn_CODE_ROWS_call : Nat} {ys_CODE_ROWS_call : Array (Option Value)} (y_CODE_ROWS_call : K.lookup t_CODE_ROWS_call = some ⟨.type "tuple", yd_CODE_ROWS_call, .seq yi_CODE_ROWS_call yn_CODE_ROWS_call, ys_CODE_ROWS_call⟩) (u_CODE_ROWS_call : Vals [.str "N"] yi_CODE_ROWS_call.toList)
    {yd_CODE_ROWS_callby : Option Addr} {yi_CODE_ROWS_callby : Array Value} {yn_CODE_ROWS_callby : Nat} {ys_CODE_ROWS_callby : Array (Option Value)} (y_CODE_ROWS_callby : K.lookup t_CODE_ROWS_callby = some ⟨.type "tuple", yd_CODE_ROWS_callby, .seq yi_CODE_ROWS_callby yn_CODE_ROWS_callby, ys_CODE_ROWS_callby⟩) (u_CODE_ROWS_callby : Vals [.str "R"] yi_CODE_ROWS_callby.toList)
    {yd_CODE_ROWS_back : Option Addr} {yi_CODE_ROWS_back : Array Value} {yn_CODE_ROWS_back : Nat} {ys_CODE_ROWS_back : Array (Option Value)} (y_CODE_ROWS_back : K.lookup t_CODE_ROWS_back = some ⟨.type "tuple", yd_CODE_ROWS_back, .seq yi_CODE_ROWS_back yn_CODE_ROWS_back, ys_CODE_ROWS_back⟩) (u_CODE_ROWS_back : Vals [] yi_CODE_ROWS_back.toList)
    {yd_CODE_ROWS_out : Option Addr} {yi_CODE_ROWS_out : Array Value} {yn_CODE_ROWS_out : Nat} {ys_CODE_ROWS_out : Array (Option Value)} (y_CODE_ROWS_out : K.lookup t_CODE_ROWS_out = some ⟨.type "tuple", yd_CODE_ROWS_out, .seq yi_CODE_ROWS_out yn_CODE_ROWS_out, ys_CODE_ROWS_out⟩) (u_CODE_ROWS_out : Vals [.str "R"] yi_CODE_ROWS_out.toList)
    {yd_CODE_ROWS_halt : Option Addr} {yi_CODE_ROWS_halt : Array Value} {yn_CODE_ROWS_halt : Nat} {ys_CODE_ROWS_halt : Array (Option Value)} (y_CODE_ROWS_halt : K.lookup t_CODE_ROWS_halt = some ⟨.type "tuple", yd_CODE_ROWS_halt, .seq yi_CODE_ROWS_halt yn_CODE_ROWS_halt, ys_CODE_ROWS_halt⟩) (u_CODE_ROWS_halt : Vals [] yi_CODE_ROWS_halt.toList)
    {yd_CODE_ROWS_room : Option Addr} {yi_CODE_ROWS_room : Array Value} {yn_CODE_ROWS_room : Nat} {ys_CODE_ROWS_room : Array (Option Value)} (y_CODE_ROWS_room : K.lookup t_CODE_ROWS_room = some ⟨.type "tuple", yd_CODE_ROWS_room, .seq yi_CODE_ROWS_room yn_CODE_ROWS_room, ys_CODE_ROWS_room⟩) (u_CODE_ROWS_room : Vals [.str "k"] yi_CODE_ROWS_room.toList)
    {qe_DATA_ROWS : Array DictEntry} {qz_DATA_ROWS : Nat} (dl_DATA_ROWS : K.lookup q_DATA_ROWS = some ⟨.type "dict", none, .dict qe_DATA_ROWS qz_DATA_ROWS, #[]⟩) (dk_DATA_ROWS : PySem.W.KeysLit w.params qe_DATA_ROWS.toList) (dw_DATA_ROWS : (q_DATA_ROWS == sysModules) = false)
    {t_DATA_ROWS_word : Addr}
    {t_DATA_ROWS_address : Addr}
    {t_DATA_ROWS_room : Addr}
    (pe_DATA_ROWS : Paired (fun (d : DictEntry) (p : Str × Value) => (∃ t, d.key = .str p.1 t) ∧ d.val = p.2) qe_DATA_ROWS.toList [("word", Value.ref t_DATA_ROWS_word), ("address", Value.ref t_DATA_ROWS_address), ("room", Value.ref t_DATA_ROWS_room)])
    {yd_DATA_ROWS_word : Option Addr} {yi_DATA_ROWS_word : Array Value} {yn_DATA_ROWS_word : Nat} {ys_DATA_ROWS_word : Array (Option Value)} (y_DATA_ROWS_word : K.lookup t_DATA_ROWS_word = some ⟨.type "tuple", yd_DATA_ROWS_word, .seq yi_DATA_ROWS_word yn_DATA_ROWS_word, ys_DATA_ROWS_word⟩) (u_DATA_ROWS_word : Vals [.str "n"] yi_DATA_ROWS_word.toList)
    {yd_DATA_ROWS_address : Option Addr} {yi_DATA_ROWS_address : Array Value} {yn_DATA_ROWS_address : Nat} {ys_DATA_ROWS_address : Array (Option Value)} (y_DATA_ROWS_address : K.lookup t_DATA_ROWS_address = some ⟨.type "tuple", yd_DATA_ROWS_address, .seq yi_DATA_ROWS_address yn_DATA_ROWS_address, ys_DATA_ROWS_address⟩) (u_DATA_ROWS_address : Vals [.str "N"] yi_DATA_ROWS_address.toList)
    {yd_DATA_ROWS_room : Option Addr} {yi_DATA_ROWS_room : Array Value} {yn_DATA_ROWS_room : Nat} {ys_DATA_ROWS_room : Array (Option Value)} (y_DATA_ROWS_room : K.lookup t_DATA_ROWS_room = some ⟨.type "tuple", yd_DATA_ROWS_room, .seq yi_DATA_ROWS_room yn_DATA_ROWS_room, ys_DATA_ROWS_room⟩) (u_DATA_ROWS_room : Vals [.str "k"] yi_DATA_ROWS_room.toList)
    {qe_BOUNDS : Array DictEntry} {qz_BOUNDS : Nat} (dl_BOUNDS : K.lookup q_BOUNDS = some ⟨.type "dict", none, .dict qe_BOUNDS qz_BOUNDS, #[]⟩) (dk_BOUNDS : PySem.W.KeysLit w.params qe_BOUNDS.toList) (dw_BOUNDS : (q_BOUNDS == sysModules) = false)
    {t_BOUNDS_n : Addr}
    {t_BOUNDS_d : Addr}
    {t_BOUNDS_k : Addr}
    (pe_BOUNDS : Paired (fun (d : DictEntry) (p : Str × Value) => (∃ t, d.key = .str p.1 t) ∧ d.val = p.2) qe_BOUNDS.toList [("n", Value.ref t_BOUNDS_n), ("d", Value.ref t_BOUNDS_d), ("k", Value.ref t_BOUNDS_k)])
    {yd_BOUNDS_n : Option Addr} {yi_BOUNDS_n : Array Value} {yn_BOUNDS_n : Nat} {ys_BOUNDS_n : Array (Option Value)} (y_BOUNDS_n : K.lookup t_BOUNDS_n = some ⟨.type "tuple", yd_BOUNDS_n, .seq yi_BOUNDS_n yn_BOUNDS_n, ys_BOUNDS_n⟩) (u_BOUNDS_n : Vals [.int 0, .int 65535] yi_BOUNDS_n.toList)
    {yd_BOUNDS_d : Option Addr} {yi_BOUNDS_d : Array Value} {yn_BOUNDS_d : Nat} {ys_BOUNDS_d : Array (Option Value)} (y_BOUNDS_d : K.lookup t_BOUNDS_d = some ⟨.type "tuple", yd_BOUNDS_d, .seq yi_BOUNDS_d yn_BOUNDS_d, ys_BOUNDS_d⟩) (u_BOUNDS_d : Vals [.int 0, .int 15] yi_BOUNDS_d.toList)
    {yd_BOUNDS_k : Option Addr} {yi_BOUNDS_k : Array Value} {yn_BOUNDS_k : Nat} {ys_BOUNDS_k : Array (Option Value)} (y_BOUNDS_k : K.lookup t_BOUNDS_k = some ⟨.type "tuple", yd_BOUNDS_k, .seq yi_BOUNDS_k yn_BOUNDS_k, ys_BOUNDS_k⟩) (u_BOUNDS_k : Vals [.int 1, .int 120] yi_BOUNDS_k.toList)
    : ∃ fd : FuncData, (∀ (s : Shared) (v : Value), BindsTo s fd ⟨[v], []⟩ [("_law_script", v)]) ∧ ∀ base : Heap, K.In base → base.Ns mainGlobals mg → FnOk l.prog w K mg base CX0 10 fa fd ["_law_script"] (sp_law K) := by
  have e := hfa.symm.trans (PySem.W.mg_of X G a_law)
  cases e
  have F_is_name := fun_mk (st := s_is_name) l_is_name c_is_name k_is_name
  have F_is_register := fun_mk (st := s_is_register) l_is_register c_is_register k_is_register
  have F_is_number := fun_mk (st := s_is_number) l_is_number c_is_number k_is_number
  have F_is_code_row := fun_mk (st := s_is_code_row) l_is_code_row c_is_code_row k_is_code_row
  have F_is_data_row := fun_mk (st := s_is_data_row) l_is_data_row c_is_data_row k_is_data_row
  have F_is_row_of := fun_mk (st := s_is_row_of) l_is_row_of c_is_row_of k_is_row_of
  have F_is_closing := fun_mk (st := s_is_closing) l_is_closing c_is_closing k_is_closing
  have F_word_of := fun_mk (st := s_word_of) l_word_of c_word_of k_word_of
  have F_fit := fun_mk (st := s_fit) l_fit c_fit k_fit
  have F_fits := fun_mk (st := s_fits) l_fits c_fits k_fits
  have F_Piece___init__ : FunD K "__init__" "Piece.__init__" (defArgs s_Piece___init__) (defBody s_Piece___init__) (defScope s_Piece___init__) [] [("alignment", .int 1), ("scope", .str "local"), ("keep", .bl false)] f_Piece___init__ _ := ⟨⟨_, _, _, _, _, _, _, _, _, _, rfl, l_Piece___init__, c_Piece___init__, .inl ⟨rfl, rfl⟩, .inr ⟨kd_Piece___init__, rfl, (kwmem1 ⟨_, kw_Piece___init___alignment, ⟨_, rfl⟩⟩ (kwmem1 ⟨_, kw_Piece___init___scope, ⟨_, rfl⟩⟩ (kwmem1 ⟨_, kw_Piece___init___keep, rfl⟩ kwmem0)))⟩⟩, k_Piece___init__⟩
  have F_Piece_rows := fun_mk (st := s_Piece_rows) l_Piece_rows c_Piece_rows k_Piece_rows
  have F_Piece_is_shared := fun_mk (st := s_Piece_is_shared) l_Piece_is_shared c_Piece_is_shared k_Piece_is_shared
  have F_Piece_is_strong := fun_mk (st := s_Piece_is_strong) l_Piece_is_strong c_Piece_is_strong k_Piece_is_strong
  have F_Piece___eq__ := fun_mk (st := s_Piece___eq__) l_Piece___eq__ c_Piece___eq__ k_Piece___eq__
  have F_Piece___len__ := fun_mk (st := s_Piece___len__) l_Piece___len__ c_Piece___len__ k_Piece___len__
  have F_Piece___bool__ := fun_mk (st := s_Piece___bool__) l_Piece___bool__ c_Piece___bool__ k_Piece___bool__
  have F_Piece___repr__ := fun_mk (st := s_Piece___repr__) l_Piece___repr__ c_Piece___repr__ k_Piece___repr__
  have F_is_part := fun_mk (st := s_is_part) l_is_part c_is_part k_is_part
  have F_is_alignment := fun_mk (st := s_is_alignment) l_is_alignment c_is_alignment k_is_alignment
  have F_is_scope_of := fun_mk (st := s_is_scope_of) l_is_scope_of c_is_scope_of k_is_scope_of
  have F_ends_closing := fun_mk (st := s_ends_closing) l_ends_closing c_ends_closing k_ends_closing
  have F_check_rows := fun_mk (st := s_check_rows) l_check_rows c_check_rows k_check_rows
  have F_law_bag := fun_mk (st := s_law_bag) l_law_bag c_law_bag k_law_bag
  have F_law_draw := fun_mk (st := s_law_draw) l_law_draw c_law_draw k_law_draw
  have F_law_of := fun_mk (st := s_law_of) l_law_of c_law_of k_law_of
  have F_law_same := fun_mk (st := s_law_same) l_law_same c_law_same k_law_same
  have F_law_titles := fun_mk (st := s_law_titles) l_law_titles c_law_titles k_law_titles
  have F_law_number := fun_mk (st := s_law_number) l_law_number c_law_number k_law_number
  have F_law_r := fun_mk (st := s_law_r) l_law_r c_law_r k_law_r
  have F_law_code_row := fun_mk (st := s_law_code_row) l_law_code_row c_law_code_row k_law_code_row
  have F_law_last_row := fun_mk (st := s_law_last_row) l_law_last_row c_law_last_row k_law_last_row
  have F_law_data_row := fun_mk (st := s_law_data_row) l_law_data_row c_law_data_row k_law_data_row
  have F_law_piece_model := fun_mk (st := s_law_piece_model) l_law_piece_model c_law_piece_model k_law_piece_model
  have F_law_piece := fun_mk (st := s_law_piece) l_law_piece c_law_piece k_law_piece
  have F_law_told_so := fun_mk (st := s_law_told_so) l_law_told_so c_law_told_so k_law_told_so
  have F_law_others := fun_mk (st := s_law_others) l_law_others c_law_others k_law_others
  have F_law := fun_mk (st := s_law) l_law c_law k_law
  let Z : Fs := ⟨f_is_name, PySem.W.fnOf "is_name" "is_name" (defArgs s_is_name) (defBody s_is_name) (defScope s_is_name) .none kV_is_name dc_is_name pm_is_name an_is_name cd_is_name ct_is_name, f_is_register, PySem.W.fnOf "is_register" "is_register" (defArgs s_is_register) (defBody s_is_register) (defScope s_is_register) .none kV_is_register dc_is_register pm_is_register an_is_register cd_is_register ct_is_register, f_is_number, PySem.W.fnOf "is_number" "is_number" (defArgs s_is_number) (defBody s_is_number) (defScope s_is_number) .none kV_is_number dc_is_number pm_is_number an_is_number cd_is_number ct_is_number, f_is_code_row, PySem.W.fnOf "is_code_row" "is_code_row" (defArgs s_is_code_row) (defBody s_is_code_row) (defScope s_is_code_row) .none kV_is_code_row dc_is_code_row pm_is_code_row an_is_code_row cd_is_code_row ct_is_code_row, f_is_data_row, PySem.W.fnOf "is_data_row" "is_data_row" (defArgs s_is_data_row) (defBody s_is_data_row) (defScope s_is_data_row) .none kV_is_data_row dc_is_data_row pm_is_data_row an_is_data_row cd_is_data_row ct_is_data_row, f_is_row_of, PySem.W.fnOf "is_row_of" "is_row_of" (defArgs s_is_row_of) (defBody s_is_row_of) (defScope s_is_row_of) .none kV_is_row_of dc_is_row_of pm_is_row_of an_is_row_of cd_is_row_of ct_is_row_of, f_is_closing, PySem.W.fnOf "is_closing" "is_closing" (defArgs s_is_closing) (defBody s_is_closing) (defScope s_is_closing) .none kV_is_closing dc_is_closing pm_is_closing an_is_closing cd_is_closing ct_is_closing, f_word_of, PySem.W.fnOf "_word_of" "_word_of" (defArgs s_word_of) (defBody s_word_of) (defScope s_word_of) .none kV_word_of dc_word_of pm_word_of an_word_of cd_word_of ct_word_of, f_fit, PySem.W.fnOf "_fit" "_fit" (defArgs s_fit) (defBody s_fit) (defScope s_fit) .none kV_fit dc_fit pm_fit an_fit cd_fit ct_fit, f_fits, PySem.W.fnOf "_fits" "_fits" (defArgs s_fits) (defBody s_fits) (defScope s_fits) .none kV_fits dc_fits pm_fits an_fits cd_fits ct_fits, f_Piece___init__, PySem.W.fnOf "__init__" "Piece.__init__" (defArgs s_Piece___init__) (defBody s_Piece___init__) (defScope s_Piece___init__) .none (.ref kd_Piece___init__) dc_Piece___init__ pm_Piece___init__ an_Piece___init__ cd_Piece___init__ ct_Piece___init__, f_Piece_rows, PySem.W.fnOf "rows" "Piece.rows" (defArgs s_Piece_rows) (defBody s_Piece_rows) (defScope s_Piece_rows) .none kV_Piece_rows dc_Piece_rows pm_Piece_rows an_Piece_rows cd_Piece_rows ct_Piece_rows, f_Piece_is_shared, PySem.W.fnOf "is_shared" "Piece.is_shared" (defArgs s_Piece_is_shared) (defBody s_Piece_is_shared) (defScope s_Piece_is_shared) .none kV_Piece_is_shared dc_Piece_is_shared pm_Piece_is_shared an_Piece_is_shared cd_Piece_is_shared ct_Piece_is_shared, f_Piece_is_strong, PySem.W.fnOf "is_strong" "Piece.is_strong" (defArgs s_Piece_is_strong) (defBody s_Piece_is_strong) (defScope s_Piece_is_strong) .none kV_Piece_is_strong dc_Piece_is_strong pm_Piece_is_strong an_Piece_is_strong cd_Piece_is_strong ct_Piece_is_strong, f_Piece___eq__, PySem.W.fnOf "__eq__" "Piece.__eq__" (defArgs s_Piece___eq__) (defBody s_Piece___eq__) (defScope s_Piece___eq__) .none kV_Piece___eq__ dc_Piece___eq__ pm_Piece___eq__ an_Piece___eq__ cd_Piece___eq__ ct_Piece___eq__, f_Piece___len__, PySem.W.fnOf "__len__" "Piece.__len__" (defArgs s_Piece___len__) (defBody s_Piece___len__) (defScope s_Piece___len__) .none kV_Piece___len__ dc_Piece___len__ pm_Piece___len__ an_Piece___len__ cd_Piece___len__ ct_Piece___len__, f_Piece___bool__, PySem.W.fnOf "__bool__" "Piece.__bool__" (defArgs s_Piece___bool__) (defBody s_Piece___bool__) (defScope s_Piece___bool__) .none kV_Piece___bool__ dc_Piece___bool__ pm_Piece___bool__ an_Piece___bool__ cd_Piece___bool__ ct_Piece___bool__, f_Piece___repr__, PySem.W.fnOf "__repr__" "Piece.__repr__" (defArgs s_Piece___repr__) (defBody s_Piece___repr__) (defScope s_Piece___repr__) .none kV_Piece___repr__ dc_Piece___repr__ pm_Piece___repr__ an_Piece___repr__ cd_Piece___repr__ ct_Piece___repr__, f_is_part, PySem.W.fnOf "is_part" "is_part" (defArgs s_is_part) (defBody s_is_part) (defScope s_is_part) .none kV_is_part dc_is_part pm_is_part an_is_part cd_is_part ct_is_part, f_is_alignment, PySem.W.fnOf "is_alignment" "is_alignment" (defArgs s_is_alignment) (defBody s_is_alignment) (defScope s_is_alignment) .none kV_is_alignment dc_is_alignment pm_is_alignment an_is_alignment cd_is_alignment ct_is_alignment, f_is_scope_of, PySem.W.fnOf "is_scope_of" "is_scope_of" (defArgs s_is_scope_of) (defBody s_is_scope_of) (defScope s_is_scope_of) .none kV_is_scope_of dc_is_scope_of pm_is_scope_of an_is_scope_of cd_is_scope_of ct_is_scope_of, f_ends_closing, PySem.W.fnOf "ends_closing" "ends_closing" (defArgs s_ends_closing) (defBody s_ends_closing) (defScope s_ends_closing) .none kV_ends_closing dc_ends_closing pm_ends_closing an_ends_closing cd_ends_closing ct_ends_closing, f_check_rows, PySem.W.fnOf "_check_rows" "_check_rows" (defArgs s_check_rows) (defBody s_check_rows) (defScope s_check_rows) .none kV_check_rows dc_check_rows pm_check_rows an_check_rows cd_check_rows ct_check_rows, f_law_bag, PySem.W.fnOf "_law_bag" "_law_bag" (defArgs s_law_bag) (defBody s_law_bag) (defScope s_law_bag) .none kV_law_bag dc_law_bag pm_law_bag an_law_bag cd_law_bag ct_law_bag, f_law_draw, PySem.W.fnOf "_law_draw" "_law_draw" (defArgs s_law_draw) (defBody s_law_draw) (defScope s_law_draw) .none kV_law_draw dc_law_draw pm_law_draw an_law_draw cd_law_draw ct_law_draw, f_law_of, PySem.W.fnOf "_law_of" "_law_of" (defArgs s_law_of) (defBody s_law_of) (defScope s_law_of) .none kV_law_of dc_law_of pm_law_of an_law_of cd_law_of ct_law_of, f_law_same, PySem.W.fnOf "_law_same" "_law_same" (defArgs s_law_same) (defBody s_law_same) (defScope s_law_same) .none kV_law_same dc_law_same pm_law_same an_law_same cd_law_same ct_law_same, f_law_titles, PySem.W.fnOf "_law_titles" "_law_titles" (defArgs s_law_titles) (defBody s_law_titles) (defScope s_law_titles) .none kV_law_titles dc_law_titles pm_law_titles an_law_titles cd_law_titles ct_law_titles, f_law_number, PySem.W.fnOf "_law_number" "_law_number" (defArgs s_law_number) (defBody s_law_number) (defScope s_law_number) .none kV_law_number dc_law_number pm_law_number an_law_number cd_law_number ct_law_number, f_law_r, PySem.W.fnOf "_law_r" "_law_r" (defArgs s_law_r) (defBody s_law_r) (defScope s_law_r) .none kV_law_r dc_law_r pm_law_r an_law_r cd_law_r ct_law_r, f_law_code_row, PySem.W.fnOf "_law_code_row" "_law_code_row" (defArgs s_law_code_row) (defBody s_law_code_row) (defScope s_law_code_row) .none kV_law_code_row dc_law_code_row pm_law_code_row an_law_code_row cd_law_code_row ct_law_code_row, f_law_last_row, PySem.W.fnOf "_law_last_row" "_law_last_row" (defArgs s_law_last_row) (defBody s_law_last_row) (defScope s_law_last_row) .none kV_law_last_row dc_law_last_row pm_law_last_row an_law_last_row cd_law_last_row ct_law_last_row, f_law_data_row, PySem.W.fnOf "_law_data_row" "_law_data_row" (defArgs s_law_data_row) (defBody s_law_data_row) (defScope s_law_data_row) .none kV_law_data_row dc_law_data_row pm_law_data_row an_law_data_row cd_law_data_row ct_law_data_row, f_law_piece_model, PySem.W.fnOf "_law_piece_model" "_law_piece_model" (defArgs s_law_piece_model) (defBody s_law_piece_model) (defScope s_law_piece_model) .none kV_law_piece_model dc_law_piece_model pm_law_piece_model an_law_piece_model cd_law_piece_model ct_law_piece_model, f_law_piece, PySem.W.fnOf "_law_piece" "_law_piece" (defArgs s_law_piece) (defBody s_law_piece) (defScope s_law_piece) .none kV_law_piece dc_law_piece pm_law_piece an_law_piece cd_law_piece ct_law_piece, f_law_told_so, PySem.W.fnOf "_law_told_so" "_law_told_so" (defArgs s_law_told_so) (defBody s_law_told_so) (defScope s_law_told_so) .none kV_law_told_so dc_law_told_so pm_law_told_so an_law_told_so cd_law_told_so ct_law_told_so, f_law_others, PySem.W.fnOf "_law_others" "_law_others" (defArgs s_law_others) (defBody s_law_others) (defScope s_law_others) .none kV_law_others dc_law_others pm_law_others an_law_others cd_law_others ct_law_others, fa, PySem.W.fnOf "law" "law" (defArgs s_law) (defBody s_law) (defScope s_law) .none kV_law dc_law pm_law an_law cd_law ct_law, qe_CODE_ROWS, qz_CODE_ROWS, qe_DATA_ROWS, qz_DATA_ROWS, qe_BOUNDS, qz_BOUNDS, f_C_Piece, q_REGISTERS, q_CODE_ROWS, q_DATA_ROWS, q_BOUNDS, q_CLOSING, q_PARTS, q_ALIGNMENTS, q_SCOPES, q_STRONG⟩
  have T : Txt K w mg Z := ⟨F_is_name,
    PySem.W.mg_of X G a_is_name,
    F_is_name.binds (ps := ["value"]) fun _ _ _ _ _ _ us hl => match us, hl with | [_], _ => rfl,
    F_is_register,
    PySem.W.mg_of X G a_is_register,
    F_is_register.binds (ps := ["value"]) fun _ _ _ _ _ _ us hl => match us, hl with | [_], _ => rfl,
    F_is_number,
    PySem.W.mg_of X G a_is_number,
    F_is_number.binds (ps := ["value", "least", "most"]) fun _ _ _ _ _ _ us hl => match us, hl with | [_, _, _], _ => rfl,
    F_is_code_row,
    PySem.W.mg_of X G a_is_code_row,
    F_is_code_row.binds (ps := ["value"]) fun _ _ _ _ _ _ us hl => match us, hl with | [_], _ => rfl,
    F_is_data_row,
    PySem.W.mg_of X G a_is_data_row,
    F_is_data_row.binds (ps := ["value"]) fun _ _ _ _ _ _ us hl => match us, hl with | [_], _ => rfl,
    F_is_row_of,
    PySem.W.mg_of X G a_is_row_of,
    F_is_row_of.binds (ps := ["part", "value"]) fun _ _ _ _ _ _ us hl => match us, hl with | [_, _], _ => rfl,
    F_is_closing,
    PySem.W.mg_of X G a_is_closing,
    F_is_closing.binds (ps := ["row"]) fun _ _ _ _ _ _ us hl => match us, hl with | [_], _ => rfl,
    F_word_of,
    PySem.W.mg_of X G a_word_of,
    F_word_of.binds (ps := ["value"]) fun _ _ _ _ _ _ us hl => match us, hl with | [_], _ => rfl,
    F_fit,
    PySem.W.mg_of X G a_fit,
    F_fit.binds (ps := ["items", "kinds"]) fun _ _ _ _ _ _ us hl => match us, hl with | [_, _], _ => rfl,
    F_fits,
    PySem.W.mg_of X G a_fits,
    F_fits.binds (ps := ["item", "kind"]) fun _ _ _ _ _ _ us hl => match us, hl with | [_, _], _ => rfl,
    F_Piece___init__,
    kbn_d_Piece___init___4_alignment_scope_keep F_Piece___init__,
    kbn_d_Piece___init___4 F_Piece___init__,
    kbn_d_Piece___init___1_keep_scope_alignment_rows_part_name F_Piece___init__,
    ⟨a_Piece_rows, i_Piece_rows, k_Piece_rows⟩,
    F_Piece_rows,
    F_Piece_rows.binds (ps := ["self"]) fun _ _ _ _ _ _ us hl => match us, hl with | [_], _ => rfl,
    ⟨a_Piece_is_shared, i_Piece_is_shared, k_Piece_is_shared⟩,
    F_Piece_is_shared,
    F_Piece_is_shared.binds (ps := ["self"]) fun _ _ _ _ _ _ us hl => match us, hl with | [_], _ => rfl,
    ⟨a_Piece_is_strong, i_Piece_is_strong, k_Piece_is_strong⟩,
    F_Piece_is_strong,
    F_Piece_is_strong.binds (ps := ["self"]) fun _ _ _ _ _ _ us hl => match us, hl with | [_], _ => rfl,
    ⟨a_Piece___eq__, i_Piece___eq__⟩,
    F_Piece___eq__,
    F_Piece___eq__.binds (ps := ["self", "other"]) fun _ _ _ _ _ _ us hl => match us, hl with | [_, _], _ => rfl,
    ⟨a_Piece___len__, i_Piece___len__⟩,
    F_Piece___len__,
    F_Piece___len__.binds (ps := ["self"]) fun _ _ _ _ _ _ us hl => match us, hl with | [_], _ => rfl,
    ⟨a_Piece___bool__, i_Piece___bool__⟩,
    F_Piece___bool__,
    F_Piece___bool__.binds (ps := ["self"]) fun _ _ _ _ _ _ us hl => match us, hl with | [_], _ => rfl,
    ⟨a_Piece___repr__, i_Piece___repr__⟩,
    F_Piece___repr__,
    F_Piece___repr__.binds (ps := ["self"]) fun _ _ _ _ _ _ us hl => match us, hl with | [_], _ => rfl,
    F_is_part,
    PySem.W.mg_of X G a_is_part,
    F_is_part.binds (ps := ["value"]) fun _ _ _ _ _ _ us hl => match us, hl with | [_], _ => rfl,
    F_is_alignment,
    PySem.W.mg_of X G a_is_alignment,
    F_is_alignment.binds (ps := ["value"]) fun _ _ _ _ _ _ us hl => match us, hl with | [_], _ => rfl,
    F_is_scope_of,
    PySem.W.mg_of X G a_is_scope_of,
    F_is_scope_of.binds (ps := ["part", "value"]) fun _ _ _ _ _ _ us hl => match us, hl with | [_, _], _ => rfl,
    F_ends_closing,
    PySem.W.mg_of X G a_ends_closing,
    F_ends_closing.binds (ps := ["part", "rows"]) fun _ _ _ _ _ _ us hl => match us, hl with | [_, _], _ => rfl,
    F_check_rows,
    PySem.W.mg_of X G a_check_rows,
    F_check_rows.binds (ps := ["part", "rows"]) fun _ _ _ _ _ _ us hl => match us, hl with | [_, _], _ => rfl,
    F_law_bag,
    PySem.W.mg_of X G a_law_bag,
    F_law_bag.binds (ps := ["_law_script"]) fun _ _ _ _ _ _ us hl => match us, hl with | [_], _ => rfl,
    F_law_draw,
    PySem.W.mg_of X G a_law_draw,
    F_law_draw.binds (ps := ["_law_bag_here", "_law_sides"]) fun _ _ _ _ _ _ us hl => match us, hl with | [_, _], _ => rfl,
    F_law_of,
    PySem.W.mg_of X G a_law_of,
    F_law_of.binds (ps := ["_law_bag_here", "_law_things"]) fun _ _ _ _ _ _ us hl => match us, hl with | [_, _], _ => rfl,
    F_law_same,
    PySem.W.mg_of X G a_law_same,
    F_law_same.binds (ps := ["_law_found", "_law_due"]) fun _ _ _ _ _ _ us hl => match us, hl with | [_, _], _ => rfl,
    F_law_titles,
    PySem.W.mg_of X G a_law_titles,
    F_law_titles.binds (ps := ["_law_bag_here", "_law_many"]) fun _ _ _ _ _ _ us hl => match us, hl with | [_, _], _ => rfl,
    F_law_number,
    PySem.W.mg_of X G a_law_number,
    F_law_number.binds (ps := ["_law_bag_here"]) fun _ _ _ _ _ _ us hl => match us, hl with | [_], _ => rfl,
    F_law_r,
    PySem.W.mg_of X G a_law_r,
    F_law_r.binds (ps := ["_law_bag_here"]) fun _ _ _ _ _ _ us hl => match us, hl with | [_], _ => rfl,
    F_law_code_row,
    PySem.W.mg_of X G a_law_code_row,
    F_law_code_row.binds (ps := ["_law_bag_here", "_law_titles_here"]) fun _ _ _ _ _ _ us hl => match us, hl with | [_, _], _ => rfl,
    F_law_last_row,
    PySem.W.mg_of X G a_law_last_row,
    F_law_last_row.binds (ps := ["_law_bag_here", "_law_titles_here"]) fun _ _ _ _ _ _ us hl => match us, hl with | [_, _], _ => rfl,
    F_law_data_row,
    PySem.W.mg_of X G a_law_data_row,
    F_law_data_row.binds (ps := ["_law_bag_here", "_law_titles_here"]) fun _ _ _ _ _ _ us hl => match us, hl with | [_, _], _ => rfl,
    F_law_piece_model,
    PySem.W.mg_of X G a_law_piece_model,
    F_law_piece_model.binds (ps := ["_law_bag_here", "_law_title", "_law_titles_here", "_law_most"]) fun _ _ _ _ _ _ us hl => match us, hl with | [_, _, _, _], _ => rfl,
    F_law_piece,
    PySem.W.mg_of X G a_law_piece,
    F_law_piece.binds (ps := ["_law_model"]) fun _ _ _ _ _ _ us hl => match us, hl with | [_], _ => rfl,
    F_law_told_so,
    PySem.W.mg_of X G a_law_told_so,
    F_law_told_so.binds (ps := ["_law_piece_y", "_law_model"]) fun _ _ _ _ _ _ us hl => match us, hl with | [_, _], _ => rfl,
    F_law_others,
    PySem.W.mg_of X G a_law_others,
    F_law_others.binds (ps := ["_law_bag_here", "_law_model", "_law_titles_here"]) fun _ _ _ _ _ _ us hl => match us, hl with | [_, _, _], _ => rfl,
    F_law,
    PySem.W.mg_of X G a_law,
    F_law.binds (ps := ["_law_script"]) fun _ _ _ _ _ _ us hl => match us, hl with | [_], _ => rfl,
    ⟨pg_Piece, hd_Piece, po_Piece, sa_Piece⟩,
    PySem.W.mg_of X G aC_Piece,
    ⟨mkk_Piece, a_Piece___init__, i_Piece___init__, kc_Piece⟩,
    nf_Piece_name,
    nf_Piece_part,
    nf_Piece_alignment,
    nf_Piece_scope,
    nf_Piece_keep,
    nf_Piece__rows,
    ⟨⟨⟨pg_Piece, hd_Piece, po_Piece, sa_Piece⟩, ha_Piece, hn_Piece, htk_Piece, hm_Piece, me_Piece⟩, isk_six it_Piece_NoneType it_Piece_bool it_Piece_int it_Piece_str it_Piece_list it_Piece_tuple, ne_Piece⟩,
    PySem.W.mg_none_of X G n_abs,
    PySem.W.mg_none_of X G n_all,
    PySem.W.mg_none_of X G n_bool,
    PySem.W.mg_none_of X G n_enumerate,
    PySem.W.mg_none_of X G n_int,
    PySem.W.mg_none_of X G n_isinstance,
    PySem.W.mg_none_of X G n_len,
    PySem.W.mg_none_of X G n_list,
    PySem.W.mg_none_of X G n_range,
    PySem.W.mg_none_of X G n_repr,
    PySem.W.mg_none_of X G n_str,
    PySem.W.mg_none_of X G n_tuple,
    PySem.W.mg_none_of X G n_zip,
    ⟨_, PySem.W.mg_of X G g_MOST_LETTERS⟩,
    PySem.W.mg_of X G g_REGISTERS,
    fun _ => .inr ⟨_, _, _, v_REGISTERS, rfl, rfl, (Nat.le_trans (Nat.le_of_eq (Array.length_toList.symm.trans w_REGISTERS.length.symm)) (by show 3 ≤ sizeLine; decide)), w_REGISTERS⟩,
    ⟨_, v_REGISTERS, rfl, rfl⟩,
    PySem.W.mg_of X G g_CODE_ROWS,
    PySem.W.mg_of X G g_DATA_ROWS,
    PySem.W.mg_of X G g_BOUNDS,
    PySem.W.mg_of X G g_CLOSING,
    fun _ => .inr ⟨_, _, _, v_CLOSING, rfl, rfl, (Nat.le_trans (Nat.le_of_eq (Array.length_toList.symm.trans w_CLOSING.length.symm)) (by show 3 ≤ sizeLine; decide)), w_CLOSING⟩,
    ⟨_, v_CLOSING, rfl, rfl⟩,
    PySem.W.mg_of X G g_PARTS,
    fun _ => .inr ⟨_, _, _, v_PARTS, rfl, rfl, (Nat.le_trans (Nat.le_of_eq (Array.length_toList.symm.trans w_PARTS.length.symm)) (by show 2 ≤ sizeLine; decide)), w_PARTS⟩,
    ⟨_, v_PARTS, rfl, rfl⟩,
    PySem.W.mg_of X G g_ALIGNMENTS,
    fun _ => .inr ⟨_, _, _, v_ALIGNMENTS, rfl, rfl, (Nat.le_trans (Nat.le_of_eq (Array.length_toList.symm.trans w_ALIGNMENTS.length.symm)) (by show 5 ≤ sizeLine; decide)), w_ALIGNMENTS⟩,
    ⟨_, v_ALIGNMENTS, rfl, rfl⟩,
    PySem.W.mg_of X G g_SCOPES,
    fun _ => .inr ⟨_, _, _, v_SCOPES, rfl, rfl, (Nat.le_trans (Nat.le_of_eq (Array.length_toList.symm.trans w_SCOPES.length.symm)) (by show 4 ≤ sizeLine; decide)), w_SCOPES⟩,
    ⟨_, v_SCOPES, rfl, rfl⟩,
    PySem.W.mg_of X G g_STRONG,
    fun _ => .inr ⟨_, _, _, v_STRONG, rfl, rfl, (Nat.le_trans (Nat.le_of_eq (Array.length_toList.symm.trans w_STRONG.length.symm)) (by show 2 ≤ sizeLine; decide)), w_STRONG⟩,
    ⟨_, v_STRONG, rfl, rfl⟩,
    ⟨_, PySem.W.mg_of X G g_MOST_ROWS⟩,
    ⟨dl_CODE_ROWS, dk_CODE_ROWS, dw_CODE_ROWS⟩,
    fun z => ⟨_, nsIn_of dl_CODE_ROWS pe_CODE_ROWS z, find_rel (show Paired (fun (p : Str × List V) (q : Str × Value) => p.1 = q.1 ∧ RelTu K p.2 q.2) tb_CODE_ROWS [("put", Value.ref t_CODE_ROWS_put), ("name", Value.ref t_CODE_ROWS_name), ("add", Value.ref t_CODE_ROWS_add), ("take", Value.ref t_CODE_ROWS_take), ("load", Value.ref t_CODE_ROWS_load), ("store", Value.ref t_CODE_ROWS_store), ("jump", Value.ref t_CODE_ROWS_jump), ("ifzero", Value.ref t_CODE_ROWS_ifzero), ("call", Value.ref t_CODE_ROWS_call), ("callby", Value.ref t_CODE_ROWS_callby), ("back", Value.ref t_CODE_ROWS_back), ("out", Value.ref t_CODE_ROWS_out), ("halt", Value.ref t_CODE_ROWS_halt), ("room", Value.ref t_CODE_ROWS_room)] from (.cons ⟨rfl, ⟨t_CODE_ROWS_put, rfl, fun _ => .inr ⟨_, _, _, y_CODE_ROWS_put, rfl, rfl, (Nat.le_trans (Nat.le_of_eq (Array.length_toList.symm.trans u_CODE_ROWS_put.length.symm)) (by show 2 ≤ sizeLine; decide)), u_CODE_ROWS_put⟩⟩⟩ (.cons ⟨rfl, ⟨t_CODE_ROWS_name, rfl, fun _ => .inr ⟨_, _, _, y_CODE_ROWS_name, rfl, rfl, (Nat.le_trans (Nat.le_of_eq (Array.length_toList.symm.trans u_CODE_ROWS_name.length.symm)) (by show 2 ≤ sizeLine; decide)), u_CODE_ROWS_name⟩⟩⟩ (.cons ⟨rfl, ⟨t_CODE_ROWS_add, rfl, fun _ => .inr ⟨_, _, _, y_CODE_ROWS_add, rfl, rfl, (Nat.le_trans (Nat.le_of_eq (Array.length_toList.symm.trans u_CODE_ROWS_add.length.symm)) (by show 2 ≤ sizeLine; decide)), u_CODE_ROWS_add⟩⟩⟩ (.cons ⟨rfl, ⟨t_CODE_ROWS_take, rfl, fun _ => .inr ⟨_, _, _, y_CODE_ROWS_take, rfl, rfl, (Nat.le_trans (Nat.le_of_eq (Array.length_toList.symm.trans u_CODE_ROWS_take.length.symm)) (by show 2 ≤ sizeLine; decide)), u_CODE_ROWS_take⟩⟩⟩ (.cons ⟨rfl, ⟨t_CODE_ROWS_load, rfl, fun _ => .inr ⟨_, _, _, y_CODE_ROWS_load, rfl, rfl, (Nat.le_trans (Nat.le_of_eq (Array.length_toList.symm.trans u_CODE_ROWS_load.length.symm)) (by show 3 ≤ sizeLine; decide)), u_CODE_ROWS_load⟩⟩⟩ (.cons ⟨rfl, ⟨t_CODE_ROWS_store, rfl, fun _ => .inr ⟨_, _, _, y_CODE_ROWS_store, rfl, rfl, (Nat.le_trans (Nat.le_of_eq (Array.length_toList.symm.trans u_CODE_ROWS_store.length.symm)) (by show 3 ≤ sizeLine; decide)), u_CODE_ROWS_store⟩⟩⟩ (.cons ⟨rfl, ⟨t_CODE_ROWS_jump, rfl, fun _ => .inr ⟨_, _, _, y_CODE_ROWS_jump, rfl, rfl, (Nat.le_trans (Nat.le_of_eq (Array.length_toList.symm.trans u_CODE_ROWS_jump.length.symm)) (by show 1 ≤ sizeLine; decide)), u_CODE_ROWS_jump⟩⟩⟩ (.cons ⟨rfl, ⟨t_CODE_ROWS_ifzero, rfl, fun _ => .inr ⟨_, _, _, y_CODE_ROWS_ifzero, rfl, rfl, (Nat.le_trans (Nat.le_of_eq (Array.length_toList.symm.trans u_CODE_ROWS_ifzero.length.symm)) (by show 2 ≤ sizeLine; decide)), u_CODE_ROWS_ifzero⟩⟩⟩ (.cons ⟨rfl, ⟨t_CODE_ROWS_call, rfl, fun _ => .inr ⟨_, _, _, y_CODE_ROWS_call, rfl, rfl, (Nat.le_trans (Nat.le_of_eq (Array.length_toList.symm.trans u_CODE_ROWS_call.length.symm)) (by show 1 ≤ sizeLine; decide)), u_CODE_ROWS_call⟩⟩⟩ (.cons ⟨rfl, ⟨t_CODE_ROWS_callby, rfl, fun _ => .inr ⟨_, _, _, y_CODE_ROWS_callby, rfl, rfl, (Nat.le_trans (Nat.le_of_eq (Array.length_toList.symm.trans u_CODE_ROWS_callby.length.symm)) (by show 1 ≤ sizeLine; decide)), u_CODE_ROWS_callby⟩⟩⟩ (.cons ⟨rfl, ⟨t_CODE_ROWS_back, rfl, fun _ => .inr ⟨_, _, _, y_CODE_ROWS_back, rfl, rfl, (Nat.le_trans (Nat.le_of_eq (Array.length_toList.symm.trans u_CODE_ROWS_back.length.symm)) (by show 0 ≤ sizeLine; decide)), u_CODE_ROWS_back⟩⟩⟩ (.cons ⟨rfl, ⟨t_CODE_ROWS_out, rfl, fun _ => .inr ⟨_, _, _, y_CODE_ROWS_out, rfl, rfl, (Nat.le_trans (Nat.le_of_eq (Array.length_toList.symm.trans u_CODE_ROWS_out.length.symm)) (by show 1 ≤ sizeLine; decide)), u_CODE_ROWS_out⟩⟩⟩ (.cons ⟨rfl, ⟨t_CODE_ROWS_halt, rfl, fun _ => .inr ⟨_, _, _, y_CODE_ROWS_halt, rfl, rfl, (Nat.le_trans (Nat.le_of_eq (Array.length_toList.symm.trans u_CODE_ROWS_halt.length.symm)) (by show 0 ≤ sizeLine; decide)), u_CODE_ROWS_halt⟩⟩⟩ (.cons ⟨rfl, ⟨t_CODE_ROWS_room, rfl, fun _ => .inr ⟨_, _, _, y_CODE_ROWS_room, rfl, rfl, (Nat.le_trans (Nat.le_of_eq (Array.length_toList.symm.trans u_CODE_ROWS_room.length.symm)) (by show 1 ≤ sizeLine; decide)), u_CODE_ROWS_room⟩⟩⟩ .nil))))))))))))))) z⟩,
    ⟨dl_DATA_ROWS, dk_DATA_ROWS, dw_DATA_ROWS⟩,
    fun z => ⟨_, nsIn_of dl_DATA_ROWS pe_DATA_ROWS z, find_rel (show Paired (fun (p : Str × List V) (q : Str × Value) => p.1 = q.1 ∧ RelTu K p.2 q.2) tb_DATA_ROWS [("word", Value.ref t_DATA_ROWS_word), ("address", Value.ref t_DATA_ROWS_address), ("room", Value.ref t_DATA_ROWS_room)] from (.cons ⟨rfl, ⟨t_DATA_ROWS_word, rfl, fun _ => .inr ⟨_, _, _, y_DATA_ROWS_word, rfl, rfl, (Nat.le_trans (Nat.le_of_eq (Array.length_toList.symm.trans u_DATA_ROWS_word.length.symm)) (by show 1 ≤ sizeLine; decide)), u_DATA_ROWS_word⟩⟩⟩ (.cons ⟨rfl, ⟨t_DATA_ROWS_address, rfl, fun _ => .inr ⟨_, _, _, y_DATA_ROWS_address, rfl, rfl, (Nat.le_trans (Nat.le_of_eq (Array.length_toList.symm.trans u_DATA_ROWS_address.length.symm)) (by show 1 ≤ sizeLine; decide)), u_DATA_ROWS_address⟩⟩⟩ (.cons ⟨rfl, ⟨t_DATA_ROWS_room, rfl, fun _ => .inr ⟨_, _, _, y_DATA_ROWS_room, rfl, rfl, (Nat.le_trans (Nat.le_of_eq (Array.length_toList.symm.trans u_DATA_ROWS_room.length.symm)) (by show 1 ≤ sizeLine; decide)), u_DATA_ROWS_room⟩⟩⟩ .nil)))) z⟩,
    ⟨dl_BOUNDS, dk_BOUNDS, dw_BOUNDS⟩,
    fun z => ⟨_, nsIn_of dl_BOUNDS pe_BOUNDS z, find_rel (show Paired (fun (p : Str × List V) (q : Str × Value) => p.1 = q.1 ∧ RelTu K p.2 q.2) tb_BOUNDS [("n", Value.ref t_BOUNDS_n), ("d", Value.ref t_BOUNDS_d), ("k", Value.ref t_BOUNDS_k)] from (.cons ⟨rfl, ⟨t_BOUNDS_n, rfl, fun _ => .inr ⟨_, _, _, y_BOUNDS_n, rfl, rfl, (Nat.le_trans (Nat.le_of_eq (Array.length_toList.symm.trans u_BOUNDS_n.length.symm)) (by show 2 ≤ sizeLine; decide)), u_BOUNDS_n⟩⟩⟩ (.cons ⟨rfl, ⟨t_BOUNDS_d, rfl, fun _ => .inr ⟨_, _, _, y_BOUNDS_d, rfl, rfl, (Nat.le_trans (Nat.le_of_eq (Array.length_toList.symm.trans u_BOUNDS_d.length.symm)) (by show 2 ≤ sizeLine; decide)), u_BOUNDS_d⟩⟩⟩ (.cons ⟨rfl, ⟨t_BOUNDS_k, rfl, fun _ => .inr ⟨_, _, _, y_BOUNDS_k, rfl, rfl, (Nat.le_trans (Nat.le_of_eq (Array.length_toList.symm.trans u_BOUNDS_k.length.symm)) (by show 2 ≤ sizeLine; decide)), u_BOUNDS_k⟩⟩⟩ .nil)))) z⟩⟩
  exact ⟨Z.d_law, fun s v => .of_eq rfl, fun base _ _ => ok_law T⟩
end Kk
open PySem PySem.W PyProof.Rows
set_option maxRecDepth 100000 in
set_option maxHeartbeats 0 in
theorem PySem.Challenge.cw_leastimage_k04_pieces_told_holds : PySem.Challenge.rw_leastimage_k04_pieces_told.Holds := by
  w_on; o_law; k_head; (case hw => w_witness2)
  k_fill
  refine L2.walk_of (l := PySem.Challenge.rw_leastimage_k04_pieces_told) (n := 63) (k := 10) (x := "_law_script") (CX := fun _ => L2.CX0) (sp := fun w => Kk.sp_law _) rfl (by decide) rfl ⟨rfl, by decide, by decide⟩ (fun w h Y => PySem.W.kIn_of Y) ?F (fun _ _ a ns hl _ hS => ⟨a, ns, rfl, hS, hl, fun _ => rfl⟩) (fun _ _ _ _ _ h => h)
  case F =>
    intro w mg fa h KX G hmg
    refine' Kk.all_mk KX G hmg ?a_is_name ?l_is_name ?c_is_name ?k_is_name ?a_is_register ?l_is_register ?c_is_register ?k_is_register ?a_is_number ?l_is_number ?c_is_number ?k_is_number ?a_is_code_row ?l_is_code_row ?c_is_code_row ?k_is_code_row ?a_is_data_row ?l_is_data_row ?c_is_data_row ?k_is_data_row ?a_is_row_of ?l_is_row_of ?c_is_row_of ?k_is_row_of ?a_is_closing ?l_is_closing ?c_is_closing ?k_is_closing ?a_word_of ?l_word_of ?c_word_of ?k_word_of ?a_fit ?l_fit ?c_fit ?k_fit ?a_fits ?l_fits ?c_fits ?k_fits ?a_Piece___init__ ?i_Piece___init__ ?l_Piece___init__ ?c_Piece___init__ ?k_Piece___init__ ?kw_Piece___init___alignment ?kw_Piece___init___scope ?kw_Piece___init___keep ?a_Piece_rows ?i_Piece_rows ?l_Piece_rows ?c_Piece_rows ?k_Piece_rows ?a_Piece_is_shared ?i_Piece_is_shared ?l_Piece_is_shared ?c_Piece_is_shared ?k_Piece_is_shared ?a_Piece_is_strong ?i_Piece_is_strong ?l_Piece_is_strong ?c_Piece_is_strong ?k_Piece_is_strong ?a_Piece___eq__ ?i_Piece___eq__ ?l_Piece___eq__ ?c_Piece___eq__ ?k_Piece___eq__ ?a_Piece___len__ ?i_Piece___len__ ?l_Piece___len__ ?c_Piece___len__ ?k_Piece___len__ ?a_Piece___bool__ ?i_Piece___bool__ ?l_Piece___bool__ ?c_Piece___bool__ ?k_Piece___bool__ ?a_Piece___repr__ ?i_Piece___repr__ ?l_Piece___repr__ ?c_Piece___repr__ ?k_Piece___repr__ ?a_is_part ?l_is_part ?c_is_part ?k_is_part ?a_is_alignment ?l_is_alignment ?c_is_alignment ?k_is_alignment ?a_is_scope_of ?l_is_scope_of ?c_is_scope_of ?k_is_scope_of ?a_ends_closing ?l_ends_closing ?c_ends_closing ?k_ends_closing ?a_check_rows ?l_check_rows ?c_check_rows ?k_check_rows ?a_law_bag ?l_law_bag ?c_law_bag ?k_law_bag ?a_law_draw ?l_law_draw ?c_law_draw ?k_law_draw ?a_law_of ?l_law_of ?c_law_of ?k_law_of ?a_law_same ?l_law_same ?c_law_same ?k_law_same ?a_law_titles ?l_law_titles ?c_law_titles ?k_law_titles ?a_law_number ?l_law_number ?c_law_number ?k_law_number ?a_law_r ?l_law_r ?c_law_r ?k_law_r ?a_law_code_row ?l_law_code_row ?c_law_code_row ?k_law_code_row ?a_law_last_row ?l_law_last_row ?c_law_last_row ?k_law_last_row ?a_law_data_row ?l_law_data_row ?c_law_data_row ?k_law_data_row ?a_law_piece_model ?l_law_piece_model ?c_law_piece_model ?k_law_piece_model ?a_law_piece ?l_law_piece ?c_law_piece ?k_law_piece ?a_law_told_so ?l_law_told_so ?c_law_told_so ?k_law_told_so ?a_law_others ?l_law_others ?c_law_others ?k_law_others ?a_law ?l_law ?c_law ?k_law ?aC_Piece ?pg_Piece ?hd_Piece ?po_Piece ?sa_Piece ?mkk_Piece ?kc_Piece ?nf_Piece_name ?nf_Piece_part ?nf_Piece_alignment ?nf_Piece_scope ?nf_Piece_keep ?nf_Piece__rows ?ha_Piece ?hn_Piece ?htk_Piece ?hm_Piece ?me_Piece ?ne_Piece ?it_Piece_NoneType ?it_Piece_bool ?it_Piece_int ?it_Piece_str ?it_Piece_list ?it_Piece_tuple ?n_abs ?n_all ?n_bool ?n_enumerate ?n_int ?n_isinstance ?n_len ?n_list ?n_range ?n_repr ?n_str ?n_tuple ?n_zip ?g_MOST_LETTERS ?g_REGISTERS ?v_REGISTERS ?w_REGISTERS ?g_CODE_ROWS ?g_DATA_ROWS ?g_BOUNDS ?g_CLOSING ?v_CLOSING ?w_CLOSING ?g_PARTS ?v_PARTS ?w_PARTS ?g_ALIGNMENTS ?v_ALIGNMENTS ?w_ALIGNMENTS ?g_SCOPES ?v_SCOPES ?w_SCOPES ?g_STRONG ?v_STRONG ?w_STRONG ?g_MOST_ROWS ?dl_CODE_ROWS ?dk_CODE_ROWS ?dw_CODE_ROWS ?pe_CODE_ROWS ?y_CODE_ROWS_put ?u_CODE_ROWS_put ?y_CODE_ROWS_name ?u_CODE_ROWS_name ?y_CODE_ROWS_add ?u_CODE_ROWS_add ?y_CODE_ROWS_take ?u_CODE_ROWS_take ?y_CODE_ROWS_load ?u_CODE_ROWS_load ?y_CODE_ROWS_store ?u_CODE_ROWS_store ?y_CODE_ROWS_jump ?u_CODE_ROWS_jump ?y_CODE_ROWS_ifzero ?u_CODE_ROWS_ifzero ?y_CODE_ROWS_call ?u_CODE_ROWS_call ?y_CODE_ROWS_callby ?u_CODE_ROWS_callby ?y_CODE_ROWS_back ?u_CODE_ROWS_back ?y_CODE_ROWS_out ?u_CODE_ROWS_out ?y_CODE_ROWS_halt ?u_CODE_ROWS_halt ?y_CODE_ROWS_room ?u_CODE_ROWS_room ?dl_DATA_ROWS ?dk_DATA_ROWS ?dw_DATA_ROWS ?pe_DATA_ROWS ?y_DATA_ROWS_word ?u_DATA_ROWS_word ?y_DATA_ROWS_address ?u_DATA_ROWS_address ?y_DATA_ROWS_room ?u_DATA_ROWS_room ?dl_BOUNDS ?dk_BOUNDS ?dw_BOUNDS ?pe_BOUNDS ?y_BOUNDS_n ?u_BOUNDS_n ?y_BOUNDS_d ?u_BOUNDS_d ?y_BOUNDS_k ?u_BOUNDS_k
    (case aC_Piece => k_is)
    (case a_is_name => k_is)
    (case l_is_name => k_is)
    (case c_is_name => k_is)
    (case k_is_name => k_is)
    (case a_is_register => k_is)
    (case l_is_register => k_is)
    (case c_is_register => k_is)
    (case k_is_register => k_is)
    (case a_is_number => k_is)
    (case l_is_number => k_is)
    (case c_is_number => k_is)
    (case k_is_number => k_is)
    (case a_is_code_row => k_is)
    (case l_is_code_row => k_is)
    (case c_is_code_row => k_is)
    (case k_is_code_row => k_is)
    (case a_is_data_row => k_is)
    (case l_is_data_row => k_is)
    (case c_is_data_row => k_is)
    (case k_is_data_row => k_is)
    (case a_is_row_of => k_is)
    (case l_is_row_of => k_is)
    (case c_is_row_of => k_is)
    (case k_is_row_of => k_is)
    (case a_is_closing => k_is)
    (case l_is_closing => k_is)
    (case c_is_closing => k_is)
    (case k_is_closing => k_is)
    (case a_word_of => k_is)
    (case l_word_of => k_is)
    (case c_word_of => k_is)
    (case k_word_of => k_is)
    (case a_fit => k_is)
    (case l_fit => k_is)
    (case c_fit => k_is)
    (case k_fit => k_is)
    (case a_fits => k_is)
    (case l_fits => k_is)
    (case c_fits => k_is)
    (case k_fits => k_is)
    (case a_Piece___init__ => k_is)
    (case i_Piece___init__ => k_is)
    (case l_Piece___init__ => k_is)
    (case c_Piece___init__ => k_is)
    (case k_Piece___init__ => k_is)
    (case kw_Piece___init___alignment => k_is)
    (case kw_Piece___init___scope => k_is)
    (case kw_Piece___init___keep => k_is)
    (case a_Piece_rows => k_is)
    (case i_Piece_rows => k_is)
    (case l_Piece_rows => k_is)
    (case c_Piece_rows => k_is)
    (case k_Piece_rows => k_is)
    (case a_Piece_is_shared => k_is)
    (case i_Piece_is_shared => k_is)
    (case l_Piece_is_shared => k_is)
    (case c_Piece_is_shared => k_is)
    (case k_Piece_is_shared => k_is)
    (case a_Piece_is_strong => k_is)
    (case i_Piece_is_strong => k_is)
    (case l_Piece_is_strong => k_is)
    (case c_Piece_is_strong => k_is)
    (case k_Piece_is_strong => k_is)
    (case a_Piece___eq__ => k_is)
    (case i_Piece___eq__ => k_is)
    (case l_Piece___eq__ => k_is)
    (case c_Piece___eq__ => k_is)
    (case k_Piece___eq__ => k_is)
    (case a_Piece___len__ => k_is)
    (case i_Piece___len__ => k_is)
    (case l_Piece___len__ => k_is)
    (case c_Piece___len__ => k_is)
    (case k_Piece___len__ => k_is)
    (case a_Piece___bool__ => k_is)
    (case i_Piece___bool__ => k_is)
    (case l_Piece___bool__ => k_is)
    (case c_Piece___bool__ => k_is)
    (case k_Piece___bool__ => k_is)
    (case a_Piece___repr__ => k_is)
    (case i_Piece___repr__ => k_is)
    (case l_Piece___repr__ => k_is)
    (case c_Piece___repr__ => k_is)
    (case k_Piece___repr__ => k_is)
    (case a_is_part => k_is)
    (case l_is_part => k_is)
    (case c_is_part => k_is)
    (case k_is_part => k_is)
    (case a_is_alignment => k_is)
    (case l_is_alignment => k_is)
    (case c_is_alignment => k_is)
    (case k_is_alignment => k_is)
    (case a_is_scope_of => k_is)
    (case l_is_scope_of => k_is)
    (case c_is_scope_of => k_is)
    (case k_is_scope_of => k_is)
    (case a_ends_closing => k_is)
    (case l_ends_closing => k_is)
    (case c_ends_closing => k_is)
    (case k_ends_closing => k_is)
    (case a_check_rows => k_is)
    (case l_check_rows => k_is)
    (case c_check_rows => k_is)
    (case k_check_rows => k_is)
    (case a_law_bag => k_is)
    (case l_law_bag => k_is)
    (case c_law_bag => k_is)
    (case k_law_bag => k_is)
    (case a_law_draw => k_is)
    (case l_law_draw => k_is)
    (case c_law_draw => k_is)
    (case k_law_draw => k_is)
    (case a_law_of => k_is)
    (case l_law_of => k_is)
    (case c_law_of => k_is)
    (case k_law_of => k_is)
    (case a_law_same => k_is)
    (case l_law_same => k_is)
    (case c_law_same => k_is)
    (case k_law_same => k_is)
    (case a_law_titles => k_is)
    (case l_law_titles => k_is)
    (case c_law_titles => k_is)
    (case k_law_titles => k_is)
    (case a_law_number => k_is)
    (case l_law_number => k_is)
    (case c_law_number => k_is)
    (case k_law_number => k_is)
    (case a_law_r => k_is)
    (case l_law_r => k_is)
    (case c_law_r => k_is)
    (case k_law_r => k_is)
    (case a_law_code_row => k_is)
    (case l_law_code_row => k_is)
    (case c_law_code_row => k_is)
    (case k_law_code_row => k_is)
    (case a_law_last_row => k_is)
    (case l_law_last_row => k_is)
    (case c_law_last_row => k_is)
    (case k_law_last_row => k_is)
    (case a_law_data_row => k_is)
    (case l_law_data_row => k_is)
    (case c_law_data_row => k_is)
    (case k_law_data_row => k_is)
    (case a_law_piece_model => k_is)
    (case l_law_piece_model => k_is)
    (case c_law_piece_model => k_is)
    (case k_law_piece_model => k_is)
    (case a_law_piece => k_is)
    (case l_law_piece => k_is)
    (case c_law_piece => k_is)
    (case k_law_piece => k_is)
    (case a_law_told_so => k_is)
    (case l_law_told_so => k_is)
    (case c_law_told_so => k_is)
    (case k_law_told_so => k_is)
    (case a_law_others => k_is)
    (case l_law_others => k_is)
    (case c_law_others => k_is)
    (case k_law_others => k_is)
    (case a_law => k_is)
    (case l_law => k_is)
    (case c_law => k_is)
    (case k_law => k_is)
    (case pg_Piece => k_is)
    (case hd_Piece => k_is)
    (case po_Piece => k_is)
    (case sa_Piece => k_is)
    (case mkk_Piece => k_is)
    (case kc_Piece => k_is)
    (case nf_Piece_name => k_is)
    (case nf_Piece_part => k_is)
    (case nf_Piece_alignment => k_is)
    (case nf_Piece_scope => k_is)
    (case nf_Piece_keep => k_is)
    (case nf_Piece__rows => k_is)
    (case ha_Piece => k_is)
    (case hn_Piece => k_is)
    (case htk_Piece => k_is)
    (case hm_Piece => k_is)
    (case me_Piece => kit_is)
    (case ne_Piece => k_is)
    (case it_Piece_NoneType => kit_is)
    (case it_Piece_bool => kit_is)
    (case it_Piece_int => kit_is)
    (case it_Piece_str => kit_is)
    (case it_Piece_list => kit_is)
    (case it_Piece_tuple => kit_is)
    (case n_abs => k_is)
    (case n_all => k_is)
    (case n_bool => k_is)
    (case n_enumerate => k_is)
    (case n_int => k_is)
    (case n_isinstance => k_is)
    (case n_len => k_is)
    (case n_list => k_is)
    (case n_range => k_is)
    (case n_repr => k_is)
    (case n_str => k_is)
    (case n_tuple => k_is)
    (case n_zip => k_is)
    (case g_MOST_LETTERS => k_is)
    (case g_REGISTERS => k_is)
    (case v_REGISTERS => k_is)
    (case w_REGISTERS => exact (.cons ⟨_, rfl⟩ (.cons ⟨_, rfl⟩ (.cons ⟨_, rfl⟩ .nil))))
    (case g_CODE_ROWS => k_is)
    (case g_DATA_ROWS => k_is)
    (case g_BOUNDS => k_is)
    (case g_CLOSING => k_is)
    (case v_CLOSING => k_is)
    (case w_CLOSING => exact (.cons ⟨_, rfl⟩ (.cons ⟨_, rfl⟩ (.cons ⟨_, rfl⟩ .nil))))
    (case g_PARTS => k_is)
    (case v_PARTS => k_is)
    (case w_PARTS => exact (.cons ⟨_, rfl⟩ (.cons ⟨_, rfl⟩ .nil)))
    (case g_ALIGNMENTS => k_is)
    (case v_ALIGNMENTS => k_is)
    (case w_ALIGNMENTS => exact (.cons ⟨_, rfl⟩ (.cons ⟨_, rfl⟩ (.cons ⟨_, rfl⟩ (.cons ⟨_, rfl⟩ (.cons ⟨_, rfl⟩ .nil))))))
    (case g_SCOPES => k_is)
    (case v_SCOPES => k_is)
    (case w_SCOPES => exact (.cons ⟨_, rfl⟩ (.cons ⟨_, rfl⟩ (.cons ⟨_, rfl⟩ (.cons ⟨_, rfl⟩ .nil)))))
    (case g_STRONG => k_is)
    (case v_STRONG => k_is)
    (case w_STRONG => exact (.cons ⟨_, rfl⟩ (.cons ⟨_, rfl⟩ .nil)))
    (case g_MOST_ROWS => k_is)
    (case dl_CODE_ROWS => k_is)
    (case dk_CODE_ROWS => repeat (first | exact trivial | refine ⟨⟨_, _, rfl, rfl⟩, ?_⟩))
    (case dw_CODE_ROWS => first | rfl | decide +kernel)
    (case pe_CODE_ROWS => exact (.cons ⟨⟨_, rfl⟩, rfl⟩ (.cons ⟨⟨_, rfl⟩, rfl⟩ (.cons ⟨⟨_, rfl⟩, rfl⟩ (.cons ⟨⟨_, rfl⟩, rfl⟩ (.cons ⟨⟨_, rfl⟩, rfl⟩ (.cons ⟨⟨_, rfl⟩, rfl⟩ (.cons ⟨⟨_, rfl⟩, rfl⟩ (.cons ⟨⟨_, rfl⟩, rfl⟩ (.cons ⟨⟨_, rfl⟩, rfl⟩ (.cons ⟨⟨_, rfl⟩, rfl⟩ (.cons ⟨⟨_, rfl⟩, rfl⟩ (.cons ⟨⟨_, rfl⟩, rfl⟩ (.cons ⟨⟨_, rfl⟩, rfl⟩ (.cons ⟨⟨_, rfl⟩, rfl⟩ .nil)))))))))))))))
    (case y_CODE_ROWS_put => k_is)
    (case u_CODE_ROWS_put => exact (.cons ⟨_, rfl⟩ (.cons ⟨_, rfl⟩ .nil)))
    (case y_CODE_ROWS_name => k_is)
    (case u_CODE_ROWS_name => exact (.cons ⟨_, rfl⟩ (.cons ⟨_, rfl⟩ .nil)))
    (case y_CODE_ROWS_add => k_is)
    (case u_CODE_ROWS_add => exact (.cons ⟨_, rfl⟩ (.cons ⟨_, rfl⟩ .nil)))
    (case y_CODE_ROWS_take => k_is)
    (case u_CODE_ROWS_take => exact (.cons ⟨_, rfl⟩ (.cons ⟨_, rfl⟩ .nil)))
    (case y_CODE_ROWS_load => k_is)
    (case u_CODE_ROWS_load => exact (.cons ⟨_, rfl⟩ (.cons ⟨_, rfl⟩ (.cons ⟨_, rfl⟩ .nil))))
    (case y_CODE_ROWS_store => k_is)
    (case u_CODE_ROWS_store => exact (.cons ⟨_, rfl⟩ (.cons ⟨_, rfl⟩ (.cons ⟨_, rfl⟩ .nil))))
    (case y_CODE_ROWS_jump => k_is)
    (case u_CODE_ROWS_jump => exact (.cons ⟨_, rfl⟩ .nil))
    (case y_CODE_ROWS_ifzero => k_is)
    (case u_CODE_ROWS_ifzero => exact (.cons ⟨_, rfl⟩ (.cons ⟨_, rfl⟩ .nil)))
    (case y_CODE_ROWS_call => k_is)
    (case u_CODE_ROWS_call => exact (.cons ⟨_, rfl⟩ .nil))
    (case y_CODE_ROWS_callby => k_is)
    (case u_CODE_ROWS_callby => exact (.cons ⟨_, rfl⟩ .nil))
    (case y_CODE_ROWS_back => k_is)
    (case u_CODE_ROWS_back => exact .nil)
    (case y_CODE_ROWS_out => k_is)
    (case u_CODE_ROWS_out => exact (.cons ⟨_, rfl⟩ .nil))
    (case y_CODE_ROWS_halt => k_is)
    (case u_CODE_ROWS_halt => exact .nil)
    (case y_CODE_ROWS_room => k_is)
    (case u_CODE_ROWS_room => exact (.cons ⟨_, rfl⟩ .nil))
    (case dl_DATA_ROWS => k_is)
    (case dk_DATA_ROWS => repeat (first | exact trivial | refine ⟨⟨_, _, rfl, rfl⟩, ?_⟩))
    (case dw_DATA_ROWS => first | rfl | decide +kernel)
    (case pe_DATA_ROWS => exact (.cons ⟨⟨_, rfl⟩, rfl⟩ (.cons ⟨⟨_, rfl⟩, rfl⟩ (.cons ⟨⟨_, rfl⟩, rfl⟩ .nil))))
    (case y_DATA_ROWS_word => k_is)
    (case u_DATA_ROWS_word => exact (.cons ⟨_, rfl⟩ .nil))
    (case y_DATA_ROWS_address => k_is)
    (case u_DATA_ROWS_address => exact (.cons ⟨_, rfl⟩ .nil))
    (case y_DATA_ROWS_room => k_is)
    (case u_DATA_ROWS_room => exact (.cons ⟨_, rfl⟩ .nil))
    (case dl_BOUNDS => k_is)
    (case dk_BOUNDS => repeat (first | exact trivial | refine ⟨⟨_, _, rfl, rfl⟩, ?_⟩))
    (case dw_BOUNDS => first | rfl | decide +kernel)
    (case pe_BOUNDS => exact (.cons ⟨⟨_, rfl⟩, rfl⟩ (.cons ⟨⟨_, rfl⟩, rfl⟩ (.cons ⟨⟨_, rfl⟩, rfl⟩ .nil))))
    (case y_BOUNDS_n => k_is)
    (case u_BOUNDS_n => exact (.cons ⟨_, rfl⟩ (.cons ⟨_, rfl⟩ .nil)))
    (case y_BOUNDS_d => k_is)
    (case u_BOUNDS_d => exact (.cons ⟨_, rfl⟩ (.cons ⟨_, rfl⟩ .nil)))
    (case y_BOUNDS_k => k_is)
    (case u_BOUNDS_k => exact (.cons ⟨_, rfl⟩ (.cons ⟨_, rfl⟩ .nil)))

