import PyProof.Rows.All
import Wide.All
import OpenK.AllK
import Wide.FinOn
import HandS.ForMost
import HandS.Walk
import HandS.IsInst
import HandS.Zip
import HandS.Style
import HandS.Codes
import HandS.Defaults
import HandS.Evl
import HandS.More
import HandS.Strs
import HandS.FStr
import HandS.MakeKw
import HandS.MakeKwOnly
import HandS.OwnEq
import HandS.Property
import HandS.Star
import HandS.RaiseMore
import HandS.StrMore
import HandS.Text
import KE.GoesEnum
import KE.GoesMore
import KE.RegKIsAll
import KE.IntTextText
import KE.KIntText
import KE.OsScanText
import PyProof.ReprRoads
import HandS.FStrTup
import HandS.Nested
import HandS.ExcInit
import HandS.TryMany
import HandS.EndTab
import KE.KExcSuper
import KE.KSuper
import KE.KNest
import KE.KDflt
import HandS.ExcField
import HandS.WordsExc
import HandS.HotCalls
import KE.KTryMore
import KE.KExcLine
import KE.RegKSuper
import KE.KNestM
import HandS.TryOnly
import HandS.Deep
import HandS.DictComp
import HandS.NoneIn
import PySem.Challenge.RW_leastimage_k07_objects_and_archives_refu
set_option Elab.async false
set_option compiler.extract_closed false
set_option maxRecDepth 100000
set_option maxHeartbeats 4000000
set_option linter.all false
namespace Kk
open PySem L2 PyProof.Rows
end Kk
namespace SupX
open PySem PySem.Spec PyProof.Rows L2 LamX NdefX
/-! ### an __init__ whose first row is super().__init__(e) -/
/-- what the program itself must be: its file, and no global called super -/
structure ProgS (P : Program) (fl : Str) : Prop where
  file : ((P.main.file : Str) == fl) = true
  top : (P.main.scope.names.lookup ("super" : Str)).isSome = false
/-- what the written part says of the def at f of the class at D, and of the base's __init__ -/
structure SupF (fl : Str) (K : PySem.W.Frag) (mg : Str → Option Value) (B i newId : String) (bmB : List Value) (D f cc cda : Addr) (params : Arguments) (qual : Str) : Prop where
  code : PySem.W.codeIn K (.ref cda) qual = true
  file : ∃ ccl cdd vs ccs tf, K.lookup cda = some ⟨ccl, cdd, .fields vs, ccs⟩ ∧ vs[2]? = some (.str fl tf)
  cell : ∃ cl cld csl, K.lookup cc = some ⟨cl, cld, .cell (some (.ref D)), csl⟩
  cls : ∃ cd, PySem.W.clsIn K D = some cd
  sub : PySem.W.mroIn K D (.ref D) = some true
  noS : mg "super" = none
  par : ∃ ar, (params.posonlyargs ++ params.args).head? = some ar ∧ ar.arg = "self"
  ini : PySem.W.ks_superIn K D D "__init__" = some (some (.builtin i))
  isB : PySem.W.subIn K (.ref D) (.type B) = some true
  opq : PySem.W.nsIn K PySem.cStatics "thirdparty.any" = some none
  made : PySem.W.excInitIn K D bmB newId = true
section
variable {X : Cx} {pins : List (Addr × Obj)} {σ : L2.St} {H : Hp} {s : Shared} {a C : Addr} {B i newId : String} {bmB : List Value}
/-- the wrapper is called: nothing of it is told -/
theorem call_mw {us : List Value} {u : Addr} {Q : Value → Shared → Prop} (FB : ExcBaseFacts B newId i bmB) (q : PySem.W.excInitIn X.K C bmB newId = true) (I : Inv X pins σ H s) (e : H a = some (exo a C none)) (hu : s.heap.get? u = some (PySem.W.kxs_mw i a)) (hl : us.length ≤ sizeLine) (h : ∀ s', Inv X pins σ H s' → Q .none s') :
    wpAny (model X.prog X.w) X.A (call (.ref u) us) Q E s := by
  obtain ⟨nm, N', qn, bs, bm, hdct, sn, sub, ab, col, dd, k0, k1, k2, k3, k5, hC, hT⟩ := PySem.W.excInit_of I.kIn q
  obtain ⟨t1, he⟩ := exo_at I.hok e
  have fin : ∀ h' : Heap, (∀ b o, b ≠ a → s.heap.get? b = some o → h'.get? b = some o) → h'.get? a = some (PySem.W.excObj C s.heap.objs.size none .none) → h'.get? s.heap.objs.size = some (PySem.W.excTup us) → Q .none { s with heap := h' } := fun h' k hx _ => by
    have J := I.write (t' := s.toks) (x := a) (e := a) (o := exo a C none) (by rw [e]; exact True.intro) (.inl rfl) k ⟨_, hx⟩ (exo_ok hx)
    have eu : upd H a (exo a C none) = H := by
      funext b
      by_cases hb : b = a
      · rw [hb, upd_same, e]
      · rw [upd_ne hb]
    rw [eu] at J
    exact h _ J
  obtain ⟨hh, g, d, tk, os⟩ := s
  refine wpAny_call (codeAny_of_tree ?_)
  show wpAny _ X.A.in1 (callAny (.ref u) ⟨us, []⟩) _ _ _
  simp only [callAny]
  refine wpAny_bind (wpAny_load hu ?_)
  simp only [PySem.W.kxs_mw, show (Value.type "method-wrapper" == Value.type "method" || Value.type "method-wrapper" == Value.type "builtin_function_or_method" || Value.type "method-wrapper" == Value.type "method-wrapper") = true by decide, if_true]
  refine PySem.W.KFB.if_so (by decide) ?_
  refine wpAny_bind (PySem.W.check_bound_init FB.toExcCallFacts hC he rfl ?_)
  refine wpAny_bind (wpAny_pure (wpAny_pure ?_))
  refine ⟨plainId_quiet FB.init.plain _, codeAny_builtin FB.initEntry ?_⟩
  exact PySem.W.exc_init_tree (cls := .ref C) (t0 := t1) (dv := none) (c2 := .none) (c3 := .none) (b4 := .bool false) he hl fin
end
section
variable {CX : CXT} {P : Program} {w : World} {K : PySem.W.Frag} {mg : Str → Option Value} {base : Heap} {N ps : List Str} {k : Nat} {f cc cda D : Addr} {name qual : Str} {params : Arguments} {e1 : Expr} {rest : List Stmt} {scope : Scope} {dV kV doc pm ct oc : Value} {an od : Option Addr}
  {osl : Array (Option Value)} {sp : Sp} {p0 p1 p2 p3 p4 : Pos} {B i newId : String} {bmB : List Value} {fl : Str}
abbrev supRow (e1 : Expr) (p0 p1 p2 p3 p4 : Pos) : Stmt := .Expr (.Call (.Attribute (.Call (.Name "super" p0) [] [] p1) "__init__" p2) [e1] [] p3) p4
abbrev supNF (name qual : Str) (params : Arguments) (body : List Stmt) (scope : Scope) (cc cda : Addr) : NF := ⟨name, qual, params, body, scope, [("__class__", cc)], cda⟩
theorem fn_super (lk : K.lookup f = some ⟨oc, od, .func (PySem.W.ksFn name qual params (supRow e1 p0 p1 p2 p3 p4 :: rest) scope dV kV doc pm an (.ref cda) ct cc), osl⟩)
    (PS : ProgS P fl) (SF : SupF fl K mg B i newId bmB D f cc cda params qual) (FB : ExcBaseFacts B newId i bmB) (KF : PySem.W.KxsFacts B i) (S : NScope N ps ["__class__"] scope) (hks : scope.names.lookup ("super" : Str) = some .globalImplicit) (h0 : ps[0]? = some ("self" : Str))
    {pl : Env → Sem Bool} (hc : ∀ env : Env, eval (.Call (.Attribute (.Call (.Name "super" p0) [] [] p1) "__init__" p2) [e1] [] p3) env = (do
      let ov ← attributeBase (.Call (.Name "super" p0) [] [] p1) "__init__" env (eval (.Call (.Name "super" p0) [] [] p1) env)
      standAt p2.atName
      let (f, first) ← holding [ov] (getMethod ov "__init__" (pl env))
      callWith p3 f first (backTo p3 (starEach [e1] env)) []))
    (he : ∀ env : Env, starEach [e1] env = [(false, eval e1 env)]) (hsw : ∀ env : Env, swapsWith (.Call (.Attribute (.Call (.Name "super" p0) [] [] p1) "__init__" p2) [e1] [] p3) none p4.line env = pure false)
    (len : ∀ vs H Q E, sp vs H Q E → vs.length = ps.length)
    (hbody : ∀ (A : Around) (outer : List Env) (s : Shared) (H : Hp) (vs : List V) (Q : VK) (E : XK), Room k (A.deeper (envF (supNF name qual params (supRow e1 p0 p1 p2 p3 p4 :: rest) scope cc cda) f s.heap.objs.size)) → sp vs H Q E →
      ∃ a ta tr, vs[0]? = some (.ref a) ∧ H a = some (exo a D none) ∧ PA (ncx CX P w K mg base N (supNF name qual params (supRow e1 p0 p1 p2 p3 p4 :: rest) scope cc cda) f A outer s H E) [e1] ta ∧ PSs (ncx CX P w K mg base N (supNF name qual params (supRow e1 p0 p1 p2 p3 p4 :: rest) scope cc cda) f A outer s H E) rest tr ∧
        ta (startF N vs [none]) H fun ws H1 => ws.length ≤ 1000 ∧ H1 a = some (exo a D none) ∧ tr { nx := fun _ H' => Q .non H', rt := Q } (startF N vs [none]) H1) :
    FnOk P w K mg base CX (k + 1) f (PySem.W.ksFn name qual params (supRow e1 p0 p1 p2 p3 p4 :: rest) scope dV kV doc pm an (.ref cda) ct cc) ps sp := by
  refine ⟨len, fun A outer s H args us vs Q E hr e0 hb r hsp => ?_⟩
  have hl := len _ _ _ _ hsp
  have KX : K.In s.heap := e0.mod.kin.keeps fun b o e => (e0.bs b o e).1
  have KB : K.In base := e0.mod.kin
  have lim : s.heap.NoLimit := e0.mod.nolimit.keeps fun b o e => (e0.bs b o e).1
  obtain ⟨a, ta, tr, hv0, ha, pa, pr, q⟩ := hbody A outer s H vs Q E (hr.deeper _) hsp
  obtain ⟨clc, cdc, vsC, ccs, tf, hcode, hvs⟩ := SF.file
  obtain ⟨cl, cld, csl, hcell⟩ := SF.cell
  obtain ⟨cd, hcd⟩ := SF.cls
  obtain ⟨ar, hpar, har⟩ := SF.par
  have hkc : scope.names.lookup ("__class__" : Str) = some .free := S.frk _ (by simp)
  have hka : scope.names.lookup ar.arg = some .local := by
    rw [har]
    exact S.par _ (List.mem_of_getElem? h0)
  have C : CellsAt [(("__class__" : Str), cc)] ["__class__"] [none] s.heap H := by
    have hc : s.heap.IsCell cc (some (.ref D)) := ⟨_, KX _ _ hcell, rfl⟩
    refine ⟨rfl, fun y c h => ?_, fun x y c h1 h2 => ?_, fun j y h => ?_⟩
    · have e : c = cc := by
        simp only [List.lookup] at h
        split at h
        · exact (Option.some.inj h).symm
        · cases h
      rw [e]
      exact ⟨(e0.bs _ _ (KB _ _ hcell)).2, _, hc⟩
    · have e1 : x = "__class__" := by
        simp only [List.lookup] at h1
        split at h1
        · rename_i z
          exact eq_of_beq z
        · cases h1
      have e2 : y = "__class__" := by
        simp only [List.lookup] at h2
        split at h2
        · rename_i z
          exact eq_of_beq z
        · cases h2
      rw [e1, e2]
    · match j, h with
      | 0, h =>
        have e : y = "__class__" := (Option.some.inj h).symm
        subst e
        exact ⟨cc, by simp [List.lookup], fun v z => by cases z⟩
      | j + 1, h => exact absurd h (by simp)
  refine ks_codeAny_call_defAt (fd := PySem.W.ksFn name qual params (supRow e1 p0 p1 p2 p3 p4 :: rest) scope dV kV doc pm an (.ref cda) ct cc) (body := supRow e1 p0 p1 p2 p3 p4 :: rest) (binds := ps.zip us) hr.depth (KX _ _ lk) rfl lim (PySem.W.codeRec_of KX SF.code) rfl hb S.nocell (fun ⟨n, _⟩ hy => S.par n (List.of_mem_zip hy).1) (fun h1 hns kp => ?_) S.co S.gen S.kind
  have I : Inv (ncx CX P w K mg base N (supNF name qual params (supRow e1 p0 p1 p2 p3 p4 :: rest) scope cc cda) f A outer s H E) [] (startF N vs [none]) H { s with heap := h1, toks := s.toks + (ps.zip us).length } := inv_startN (F := supNF name qual params (supRow e1 p0 p1 p2 p3 p4 :: rest) scope cc cda) S hr.hd e0 hl r C hns kp
  show _root_.PySem.wpAt (model P w) (A.deeper (envF (supNF name qual params (supRow e1 p0 p1 p2 p3 p4 :: rest) scope cc cda) f s.heap.objs.size)) (.func (supRow e1 p0 p1 p2 p3 p4 :: rest) (envF (supNF name qual params (supRow e1 p0 p1 p2 p3 p4 :: rest) scope cc cda) f s.heap.objs.size)) (execs (supRow e1 p0 p1 p2 p3 p4 :: rest) (envF (supNF name qual params (supRow e1 p0 p1 p2 p3 p4 :: rest) scope cc cda) f s.heap.objs.size)) _ _ _
  refine ks_wpAt_execs_cons (ks_wpAt_Expr_any (ks_wpAt_MethodCall ?_ (hc _)) I.quiet (hsw _))
  have X : K.In h1 := KX.keeps kp
  obtain ⟨oD, hD1, hD2⟩ : ∃ oD, h1.get? D = some oD ∧ oD.data = .cls cd := by
    unfold PySem.W.clsIn at hcd
    split at hcd
    · rename_i c d cd' sl ho
      cases hcd
      exact ⟨_, X _ _ ho, rfl⟩
    · cases hcd
  refine ks_wpAt_super_base (env := envF (supNF name qual params (supRow e1 p0 p1 p2 p3 p4 :: rest) scope cc cda) f s.heap.objs.size) hks hkc (by decide) rfl (X _ _ lk) rfl hpar rfl (X _ _ hcode) rfl hvs PS.file PS.top ?_
  obtain ⟨mb, hmb, hboot⟩ := I.mod.blt
  refine PySem.W.ks_loadName_global S.kind hks (Calls.loadGlobal_builtin (env := envF (supNF name qual params (supRow e1 p0 p1 p2 p3 p4 :: rest) scope cc cda) f s.heap.objs.size) (I.mod.glob.keeps I.bk) SF.noS (hmb.keeps I.bk) ((hboot _ (by decide)).trans (by first | boot_by_name | rfl | kernel_rfl)) ⟨rfl, ?_⟩)
  refine wpAny_loadName_free (env := envF (supNF name qual params (supRow e1 p0 p1 p2 p3 p4 :: rest) scope cc cda) f s.heap.objs.size) S.kind hkc rfl ⟨_, X _ _ hcell, rfl⟩ ?_
  obtain ⟨u0, hu0, ru0⟩ := r.get hv0
  obtain rfl : u0 = Value.ref a := ru0
  have ndP : ps.Nodup := by
    have q := S.nd.sublist (List.take_sublist (ps.length + 1) N)
    rw [show N.take (ps.length + 1) = ps ++ [("__class__" : Str)] from S.pre] at q
    exact (List.nodup_append.mp q).1
  have hlook : (ps.zip us).reverse.lookup ar.arg = some (.ref a) := by
    rw [har]
    exact zip_look ndP h0 hu0
  refine wpAny_loadName_local S.kind hka hns hlook ?_
  refine ks_wpAny_isType_cls hD1 hD2 ⟨rfl, ?_⟩
  obtain ⟨t1, hx⟩ := exo_at I.hok ha
  refine ks_wpAny_call_super hD1 hD2 hx rfl (fun c e => by cases e) (PySem.W.looks_mroIn X SF.sub) (fun h2 eso k2 => ?_)
  have I2 := I.kept (t' := s.toks + (ps.zip us).length) k2
  have IA : PySem.W.InstAt h2 a { cls := .ref D, data := .fields #[.ref t1, .none, .none, .none, .bool false, .none] } D none := ⟨k2 _ _ hx, rfl, rfl, trivial⟩
  have X2 : K.In h2 := X.keeps k2
  have hsi := SF.ini
  unfold PySem.W.ks_superIn at hsi
  rw [hcd] at hsi
  refine PySem.W.kxs_getMethod KF eso (PySem.W.looks_opaque X2 SF.opq) (l₀ := cd.mro) (fun A Q E s k q => wpAny_bind ((PySem.W.looks_clsIn X2 hcd) A _ E s k (wpAny_pure q))) rfl X2 hsi (IA.type.andThen (PySem.W.looks_subIn X2 SF.isB)) (PySem.W.ks_ne X2 IA hcd) (by decide) ?_
  have k3 : ∀ b o, h2.get? b = some o → (h2.push (PySem.W.kxs_mw i a)).get? b = some o := fun b o e => Heap.get?_push_of_some _ e
  have I3 := I2.kept (t' := s.toks + (ps.zip us).length + 1) k3
  have nu : H h2.objs.size = none := I2.hok.fresh (Nat.le_refl _)
  have I4 := I3.pins_of (pins' := [(h2.objs.size, PySem.W.kxs_mw i a)]) (fun p hp => by
    obtain rfl := List.mem_singleton.mp hp
    refine ⟨Heap.get?_push_at rfl rfl, nu, fun z => ?_, I2.nofs (Nat.le_refl _), fun v z => by cases z⟩
    obtain ⟨oL, es, ep, hL, _⟩ := hns
    have y := Heap.lt_size (k2 _ _ hL)
    exact absurd (show h2.objs.size = s.heap.objs.size from z) (Nat.ne_of_gt y))
  refine PySem.W.kxs_callWith (i := i) (x := a) ?_ ?_
  · rw [he]
    rfl
  have hrun := thn (pa.run p3 [(h2.objs.size, PySem.W.kxs_mw i a)] _ (startF N vs [none]) H _ I4 q) (Q' := fun ws s₁ => PySem.W.KxsAt i h2.objs.size a s₁.heap ∧ wpAny (model P w) (A.deeper (envF (supNF name qual params (supRow e1 p0 p1 p2 p3 p4 :: rest) scope cc cda) f s.heap.objs.size)) (call (.ref h2.objs.size) ([] ++ ws))
      (fun _ s' => PySem.wpAt (model P w) (A.deeper (envF (supNF name qual params (supRow e1 p0 p1 p2 p3 p4 :: rest) scope cc cda) f s.heap.objs.size)) (.func (supRow e1 p0 p1 p2 p3 p4 :: rest) (envF (supNF name qual params (supRow e1 p0 p1 p2 p3 p4 :: rest) scope cc cda) f s.heap.objs.size)) (execs rest (envF (supNF name qual params (supRow e1 p0 p1 p2 p3 p4 :: rest) scope cc cda) f s.heap.objs.size)) (fun fl s' => CR CX outer P w H s Q E (.ok (.ret (match fl with | .ret v => v | _ => .none))) s') (ncx CX P w K mg base N (supNF name qual params (supRow e1 p0 p1 p2 p3 p4 :: rest) scope cc cda) f A outer s H E).xe s') (ncx CX P w K mg base N (supNF name qual params (supRow e1 p0 p1 p2 p3 p4 :: rest) scope cc cda) f A outer s H E).xe s₁) fun ws s₁ ⟨vs1, H1, I5, r1, hz, h1a, q1⟩ => by
    have hp := (I5.pin (h2.objs.size, PySem.W.kxs_mw i a) (by simp [ncx])).1
    refine ⟨hp, call_mw FB SF.made I5 h1a hp (by rw [List.nil_append, ← Paired.length r1, sizeLine_eq]; omega) fun s' J => ?_⟩
    refine wpAt_of_wpAny (wpAny_mono (pr.run _ _ (startF N vs [none]) H1 _ J q1) (fun fl s' hs => ?_) fun e s' hs => hs)
    have fin : ∀ {σ' : L2.St} {H' : Hp} {v : V} {u : Value}, Inv (ncx CX P w K mg base N (supNF name qual params (supRow e1 p0 p1 p2 p3 p4 :: rest) scope cc cda) f A outer s H E) [(h2.objs.size, PySem.W.kxs_mw i a)] σ' H' s' → L2.RelV v u → Q v H' → CE outer P w H s Q u s' :=
      fun {σ' H' v u} J rv q => ⟨v, H', J.os, J.bare, J.base, J.hok, rv, q⟩
    cases fl with
    | ret u =>
      obtain ⟨v, σ', H', J, rv, q⟩ := hs
      exact fin J rv q
    | next =>
      obtain ⟨σ', H', J, q⟩ := hs
      exact fin (v := V.non) (u := Value.none) J rfl q
    | brk =>
      obtain ⟨_, _, _, q⟩ := hs
      exact False.elim q
    | cont =>
      obtain ⟨_, _, _, q⟩ := hs
      exact False.elim q
  rw [he] at hrun ⊢
  exact Calls.evalArgs_plain hrun
end
end SupX
namespace Kk
open PySem L2 PyProof.Rows

end Kk
namespace PySem
open PySem.Spec PyProof.Rows
open Sem
section
theorem rpx_list_head {M : Model} {A : Around} {E : Value → Shared → Prop} {s : Shared} {Q : Fin → Shared → Prop} {a : Addr} {o : Obj} {x : Value} {l : List Value} {n : Nat} {b : Nat}
    (hget : s.heap.get? a = some o) (hd : o.data = .seq (x :: l).toArray n) (h1 : wpAny M A (do rule "list.__repr__.in-itself"; return ← retStr "[...]") Q E s)
    (h : wpAny M A (do again (.builtin "list.__repr__.loop" ⟨[.ref a, rawInt 0, ← newList [], rawInt b], []⟩)) Q E s) : wpAny M A (Builtin.listReprAt b ⟨[.ref a], []⟩) Q E s := by
  intro Γ p hΓ
  have e2 := h Γ p hΓ
  have e1 := h1 Γ p hΓ
  unfold Builtin.listReprAt
  simp [slotArgs, Builtin.List.listItems, seqItems?, wp_load_of (h := hget), hd, stack]
  show wp M Γ (if (Γ.below.any _) = true then _ else _) _ _ p s
  split
  · simpa using e1
  · exact e2
end
section
variable {prog : Program} {w : World} {A : Around} {E : Value → Shared → Prop} {s : Shared} {a : Addr} {oa : Obj} {x : Value} {l : List Value} {na : Nat} {ts : List Str}
theorem rpx_item {prog : Program} {w : World} : ∀ {l : List Value} {ts : List Str}, ReprAll prog w l ts → ∀ (i : Nat) (y : Value), l[i]? = some y → ∃ t, ts[i]? = some t ∧ ReprIs prog w y t
  | _, _, .nil, _, _, e => by simp at e
  | _, _, .cons h _, 0, _, e => by
    simp at e
    subst e
    exact ⟨_, rfl, h⟩
  | _, _, .cons _ r, i + 1, y, e => by
    obtain ⟨t, h1, h2⟩ := rpx_item r i y (by simpa using e)
    exact ⟨t, by simpa using h1, h2⟩
theorem rpx_list {Q : Value → Shared → Prop} (hTy : s.TypeIs (.ref a) "list") (ha : s.heap.get? a = some oa) (hda : oa.data = .seq (x :: l).toArray na) (hT : ReprAll prog w (x :: l) ts)
    (hsz : (listText ts).length ≤ sizeLine) (h : ∀ h' m u tk, (∀ b o, s.heap.get? b = some o → h'.get? b = some o) → m.length ≤ (listText ts).length + 5 → Q (.str m u) { s with heap := h', toks := tk }) :
    wpAny (model prog w) A (call (.builtin "list.__repr__") [.ref a]) Q E s := by
  refine wpAny_call (codeAny_call_builtin F.slot_list_repr.plain F.entry_list_repr (F.slot_list_repr.check _ _ _ _ _ _ _ _ hTy (F.args_list_repr_1 _) ?_))
  show wpAny (model prog w) A.in1 (Builtin.listReprAt 0 ⟨[.ref a], []⟩) _ _ s
  refine rpx_list_head ha hda ?_ ?_
  · refine wpAny_bind (wpAny_rule ?_)
    refine wpAny_bind (wpAny_mkStr (wpAny_pure ?_) (by decide +kernel))
    exact h s.heap "[...]" _ _ (fun _ _ e => e) (Nat.le_trans (show ("[...]" : Str).length ≤ 5 by decide +kernel) (Nat.le_add_left _ _))
  · refine wpAny_bind (m := newList []) (wpAny_newObj_type ?_)
    refine wpAny_pure ⟨F.quiet_list_repr_loop _, ?_⟩
    refine codeAny_list_repr_start (P := s.heap.objs.size) (Nat.ne_of_lt (Heap.lt_size ha)) (ts := ts) (by simpa using hT.length_eq) (fun i y e => rpx_item hT i y (by simpa using e)) (Heap.get?_push_of_some _ ha) hda (Heap.get?_push_size _ rfl) (fun h' u tk hk => ?_) (by omega)
    exact h h' (listText ts) u tk (fun b o e => hk b o (Nat.ne_of_lt (Heap.lt_size e)) (Heap.get?_push_of_some _ e)) (Nat.le_add_right _ _)
/-- repr of a list or tuple of plain things, whatever is under way: some text -/
theorem rpx_tupleObj {o : Obj} {items : Array Value} {n : Nat} {Q : Value → Shared → Prop} (hu : A.units < cLine) (ha : s.heap.get? a = some o) (hc : o.cls = .type "tuple") (hd : o.data = .seq items n) (hT : ReprAll prog w items.toList ts) (hsz : (tupleText ts).length ≤ sizeLine)
    (h : ∀ (m : Str) (u tk : Tok), m.length ≤ (tupleText ts).length + 5 → Q (.str m u) { s with toks := tk }) : wpAny (model prog w) A (pyReprObj (.ref a)) Q E s :=
  wpAny_pyReprObj_slot hu ⟨o, ha, hc⟩ F.slot_tuple_repr (fmt_tuple_repr ha hc hd hT hsz fun m u tk hm => ⟨m, u, rfl, h m u tk hm⟩)
theorem rpx_listObj {o : Obj} {items : Array Value} {n : Nat} {Q : Value → Shared → Prop} (hu : A.units < cLine) (ha : s.heap.get? a = some o) (hc : o.cls = .type "list") (hd : o.data = .seq items n) (hT : ReprAll prog w items.toList ts) (hsz : (listText ts).length ≤ sizeLine)
    (h : ∀ h' m u tk, (∀ b o, s.heap.get? b = some o → h'.get? b = some o) → m.length ≤ (listText ts).length + 5 → Q (.str m u) { s with heap := h', toks := tk }) : wpAny (model prog w) A (pyReprObj (.ref a)) Q E s := by
  obtain ⟨l⟩ := items
  cases l with
  | nil => exact wpAny_pyReprObj_list_empty ⟨o, ha, hc⟩ hu ha hd (h s.heap "[]" _ _ (fun _ _ e => e) (Nat.le_trans (show ("[]" : Str).length ≤ 5 by decide +kernel) (Nat.le_add_left _ _)))
  | cons x l =>
    exact wpAny_pyReprObj_slot hu ⟨o, ha, hc⟩ F.slot_list_repr.toG (rpx_list ⟨o, ha, hc⟩ ha hd hT hsz fun h' m u tk k hm => ⟨m, u, rfl, h h' m u tk k hm⟩)
end
end PySem
namespace L2
open PySem PySem.Spec PyProof.Rows
/-- a plain thing and its text -/
inductive Flat : V → Str → Prop
  | non : Flat .non "None"
  | bl (b : Bool) : Flat (.bl b) (if b then "True" else "False")
  | int (i : Int) (h : i.natAbs.log2 < 1920) : Flat (.int i) (toString i)
  | str (z : Str) (h : (reprText z).length ≤ sizeLine) : Flat (.str z) (reprText z)
inductive FlatA : List V → List Str → Prop
  | nil : FlatA [] []
  | cons {x : V} {t : Str} {xs : List V} {ts : List Str} (h : Flat x t) (r : FlatA xs ts) : FlatA (x :: xs) (t :: ts)
theorem FlatA.repr {prog : Program} {w : World} : ∀ {xs : List V} {ts : List Str}, FlatA xs ts → ∀ {its : List Value}, Vals xs its → ReprAll prog w its ts
  | _, _, .nil, _, r => by
    cases r
    exact .nil
  | _, _, .cons h r, _, v => by
    cases v with
    | cons v1 v2 =>
      refine .cons ?_ (r.repr v2)
      cases h with
      | non => cases v1; exact ReprIs.none
      | bl b => cases v1; exact ReprIs.bool b
      | int i h => obtain ⟨t, rfl⟩ := v1; exact ReprIs.int t h
      | str z h => obtain ⟨t, rfl⟩ := v1; exact ReprIs.str z t h
theorem list_text : ∀ ts : List Str, (listText ts).length ≤ piled ts + 2
  | [] => by decide +kernel
  | t :: r => by
    have h := textFrom_length_pos r 1 (("[" : Str) ++ (if (0 : Nat) > 0 then ", " else "" : String) ++ t) (Nat.succ_pos 0)
    have e : ((("[" : Str) ++ (if (0 : Nat) > 0 then ", " else "" : String) ++ t)).length = 1 + t.length := by
      rw [strLen_append, strLen_append]; rfl
    have hX : (listText (t :: r)).length = (textFrom 0 "[" (t :: r)).length + 1 := by
      show (textFrom 0 "[" (t :: r) ++ "]").length = _
      rw [strLen_append]; rfl
    have hY : (textFrom 0 "[" (t :: r)).length = (textFrom 1 (("[" : Str) ++ (if (0 : Nat) > 0 then ", " else "" : String) ++ t) r).length := rfl
    rw [hX, hY, h, e, piled_cons]
    omega
/-- what {x!r} comes to is no longer than c and a little -/
def Shows (K : PySem.W.Frag) (H : Hp) (x : V) (c : Nat) : Prop := (∃ t, Flat x t ∧ t.length ≤ c) ∨ ∃ (a : Addr) (xs : List V) (ts : List Str), x = .ref a ∧ (SqT K H a xs ∨ SqL K H a xs) ∧ FlatA xs ts ∧ piled ts ≤ c
def RFmtX (K : PySem.W.Frag) (x : V) (H1 : Hp) (Q : VK) : Prop := ∃ c : Nat, Shows K H1 x c ∧ c + 7 ≤ sizeLine ∧ ∀ m : Str, m.length ≤ c + 7 → Q (.str m) H1
def tFmtX (K : PySem.W.Frag) (te : TE) : TE := fun σ H Q => te σ H fun x H1 => RFmtX K x H1 Q
theorem pe_fmtX {X : Cx} {e : Expr} {te : TE} {pos : Pos} {k : Nat} (hr : Room k X.A) (he : PE X e te) : PE X (.FormattedValue e 114 none pos) (tFmtX X.K te) := by
  refine ⟨fun pins s σ H Q I h => ?_⟩
  refine wpAny_FormattedValue_repr (thn (he.run pins s σ H _ I h) fun v s1 hv => ?_)
  obtain ⟨x, H1, I1, r1, c, sh, hz, q⟩ := hv
  have fin : ∀ (m : Str) (u : Tok) (s2 : Shared), Inv X pins σ H1 s2 → m.length ≤ c + 7 → wpAny (model X.prog X.w) X.A (formatField (.str m u) Str.empty) (fun r s' => ∃ y H', Inv X pins σ H' s' ∧ RelV y r ∧ Q y H') X.xe s2 := fun m u s2 I2 hm =>
    wpAny_formatField_str ⟨.str m, H1, I2, ⟨_, rfl⟩, q m hm⟩ ⟨.str m, H1, I2.tok _, ⟨_, rfl⟩, q m hm⟩ (by omega)
  have hu := hr.units
  rcases sh with ⟨t, hf, ht⟩ | ⟨a, xs, ts, rfl, hs, hf, ht⟩
  · cases hf with
    | non => cases r1; exact pyReprObj_none (fin _ _ _ (I1.tok _) (by omega))
    | bl b => cases r1; exact pyReprObj_bool (fin _ _ _ (I1.tok _) (by omega))
    | int i h => obtain ⟨t, rfl⟩ := r1; exact pyReprObj_int h (fin _ _ _ (I1.tok _) (by omega))
    | str z h => obtain ⟨t, rfl⟩ := r1; exact pyReprObj_str (fin _ _ _ (I1.tok _) (by omega)) h
  · cases r1
    rcases hs with hs | hs
    · obtain ⟨its, rv, ⟨o, ho, hcl, n, hd⟩, _⟩ := I1.tuple hs
      have htx := fmt_text ts
      exact rpx_tupleObj (ts := ts) (by omega) ho hcl hd (hf.repr rv) (by omega) fun m u tk hm => fin m u _ (I1.tok _) (by omega)
    · obtain ⟨its, rv, ⟨o, n, ho, hcl, _, hd⟩, _⟩ := I1.list hs
      have htx := list_text ts
      exact rpx_listObj (ts := ts) (by omega) ho hcl hd (hf.repr rv) (by omega) fun h' m u tk k hm => fin m u _ (I1.kept k) (by omega)
end L2
namespace Kk
open PySem L2 PyProof.Rows

end Kk
namespace Lend
open PySem PySem.Spec PyProof.Rows L2
/-! ### cells lent to a callee: tracked there as they stand, let go behind it -/
def CelO (c : Addr) (o : Obj) : HO := .ext fun h => h.get? c = some o
def lend (H : Hp) (cs : List (Addr × Obj)) : Hp := fun b => match cs.lookup b with
  | some o => some (CelO b o)
  | none => H b
def unl (H : Hp) (cs : List (Addr × Obj)) : Hp := fun b => match cs.lookup b with
  | some _ => none
  | none => H b
theorem celO_own {c x : Addr} {o : Obj} : CelO c o ≠ .own x := fun z => by
  have z' : HO.ext _ = HO.own x := z
  cases z'
theorem celO_tup {c : Addr} {o : Obj} {xs : List V} : CelO c o ≠ .tup xs := fun z => by
  have z' : HO.ext _ = HO.tup xs := z
  cases z'
theorem celO_frz {c : Addr} {o u : Obj} {v : HO} : CelO c o ≠ .frz u v := fun z => by
  have z' : HO.ext _ = HO.frz u v := z
  cases z'
theorem celO_tbl {c : Addr} {o : Obj} {ps : Array Value} : CelO c o ≠ .tbl ps := fun z => by
  have z' : HO.ext _ = HO.tbl ps := z
  cases z'
section
variable {P : Program} {w : World} {H H' : Hp} {h h' : Heap} {cs : List (Addr × Obj)} {fs : List Addr} {b : Addr} {o : Obj}
theorem lend_in (e : cs.lookup b = some o) : lend H cs b = some (CelO b o) := by
  unfold lend
  rw [e]
theorem lend_out (e : cs.lookup b = none) : lend H cs b = H b := by
  unfold lend
  rw [e]
theorem unl_in (e : cs.lookup b = some o) : unl H cs b = none := by
  unfold unl
  rw [e]
theorem unl_out (e : cs.lookup b = none) : unl H cs b = H b := by
  unfold unl
  rw [e]
theorem cel_at (hok : HOk P w H h) (e : H b = some (CelO b o)) : h.get? b = some o := by
  have x : ObjOk P w H h b (.ext fun h => h.get? b = some o) := hok b _ e
  exact x.1
/-- outside: the cells stand in the heap and are not tracked -/
def Outs (H : Hp) (h : Heap) (cs : List (Addr × Obj)) : Prop := ∀ b o, cs.lookup b = some o → h.get? b = some o ∧ H b = none
/-- inside: they are tracked as they stand -/
def Ins (H : Hp) (cs : List (Addr × Obj)) : Prop := ∀ b o, cs.lookup b = some o → H b = some (CelO b o)
theorem Outs.off {u : HO} (c : Outs H h cs) (e : H b = some u) : cs.lookup b = none := by
  cases z : cs.lookup b with
  | none => rfl
  | some o =>
    rw [(c b o z).2] at e
    cases e
theorem Ins.off (c : Ins H cs) (e : H b = none) : cs.lookup b = none := by
  cases z : cs.lookup b with
  | none => rfl
  | some o =>
    rw [c b o z] at e
    cases e
theorem Ins.offO {u : HO} (c : Ins H cs) (e : H b = some u) (n : ∀ o, CelO b o ≠ u) : cs.lookup b = none := by
  cases z : cs.lookup b with
  | none => rfl
  | some o =>
    rw [c b o z] at e
    exact absurd (Option.some.inj e) (n o)
theorem lend_ins : Ins (lend H cs) cs := fun _ _ e => lend_in e
theorem lend_ok (hok : HOk P w H h) (c : Outs H h cs) : HOk P w (lend H cs) h := fun b u e => by
  cases z : cs.lookup b with
  | some o =>
    rw [lend_in z] at e
    cases e
    exact ⟨(c b o z).1, ⟨o, (c b o z).1⟩, fun h1 h2 p st => st _ p⟩
  | none =>
    rw [lend_out z] at e
    exact (hok b u e).stay (fun _ _ _ q => q) (fun d q => by rw [lend_out (c.off q)]; exact q) (fun d xs q => by rw [lend_out (c.off q)]; exact q)
theorem unl_ok (hok : HOk P w H h) (c : Ins H cs) : HOk P w (unl H cs) h := fun b u e => by
  cases z : cs.lookup b with
  | some o =>
    rw [unl_in z] at e
    cases e
  | none =>
    rw [unl_out z] at e
    exact (hok b u e).stay (fun _ _ _ q => q) (fun d q => by rw [unl_out (c.offO q fun _ => celO_own)]; exact q) (fun d xs q => by rw [unl_out (c.offO q fun _ => celO_tup)]; exact q)
/-- behind a call to which the cells were lent -/
theorem un_out (u : Un fs [] (lend H cs) H' h h') (c : Outs H h cs) (d : Ins H' cs) (hok : HOk P w H' h') : Un fs [] H (unl H' cs) h h' where
  keep := fun b o e n hf hx => by
    cases z : cs.lookup b with
    | some v =>
      rw [(c b v z).1] at e
      cases e
      exact cel_at hok (d b _ z)
    | none => exact u.keep b o e (by rw [lend_out z]; exact n) hf hx
  slot := fun b o e n hf hx => by
    cases z : cs.lookup b with
    | some v =>
      rw [(c b v z).1] at e
      cases e
      exact ⟨_, cel_at hok (d b _ z)⟩
    | none => exact u.slot b o e (by rw [lend_out z]; exact n) hf hx
  free := fun b o e n hx => by
    cases z : cs.lookup b with
    | some v => exact unl_in z
    | none =>
      rw [unl_out z]
      exact u.free b o e (by rw [lend_out z]; exact n) hx
  there := u.there
  tups := fun b xs e => by
    rw [unl_out (c.off e)]
    exact u.tups b xs (by rw [lend_out (c.off e)]; exact e)
  frzs := fun b o v e => by
    rw [unl_out (c.off e)]
    exact u.frzs b o v (by rw [lend_out (c.off e)]; exact e)
  tbls := fun b ps e => by
    rw [unl_out (c.off e)]
    exact u.tbls b ps (by rw [lend_out (c.off e)]; exact e)
/-- within a callee: the cells are its own for a while -/
theorem un_in (u : Un fs [] (unl H cs) H' h h') (c : Ins H cs) : Un fs [] H (lend H' cs) h h' where
  keep := fun b o e n hf hx => u.keep b o e (by rw [unl_out (c.off n)]; exact n) hf hx
  slot := fun b o e n hf hx => u.slot b o e (by rw [unl_out (c.off n)]; exact n) hf hx
  free := fun b o e n hx => by
    rw [lend_out (c.off n)]
    exact u.free b o e (by rw [unl_out (c.off n)]; exact n) hx
  there := u.there
  tups := fun b xs e => by
    have z := c.offO e fun _ => celO_tup
    rw [lend_out z]
    exact u.tups b xs (by rw [unl_out z]; exact e)
  frzs := fun b o v e => by
    have z := c.offO e fun _ => celO_frz
    rw [lend_out z]
    exact u.frzs b o v (by rw [unl_out z]; exact e)
  tbls := fun b ps e => by
    have z := c.offO e fun _ => celO_tbl
    rw [lend_out z]
    exact u.tbls b ps (by rw [unl_out z]; exact e)
/-- what was theirs for a while is lent again -/
theorem outs_after (u : Un fs [] (unl H cs) H' h h') (hok : HOk P w H h) (c : Ins H cs) (nf : ∀ b o, cs.lookup b = some o → b ∉ fs) : Outs H' h' cs := fun b o e => by
  have hb := cel_at hok (c b o e)
  exact ⟨u.keep b o hb (unl_in e) (nf b o e) (by simp), u.free b o hb (unl_in e) (by simp)⟩
theorem env0_unl {K : PySem.W.Frag} {mg : Str → Option Value} {base : Heap} {A : Around} {outer : List Env} {s : Shared} (e0 : Env0 P w K mg base A outer s H) (c : Ins H cs) : Env0 P w K mg base A outer s (unl H cs) :=
  ⟨e0.frames, e0.mod, fun b o e => ⟨(e0.bs b o e).1, by rw [unl_out (c.off (e0.bs b o e).2)]; exact (e0.bs b o e).2⟩, e0.bsz, e0.funs, fun b hb => by rw [unl_out (c.off (e0.frf b hb))]; exact e0.frf b hb, unl_ok e0.hok c, e0.bare⟩
theorem env0_lend {K : PySem.W.Frag} {mg : Str → Option Value} {base : Heap} {A : Around} {outer : List Env} {s : Shared} (e0 : Env0 P w K mg base A outer s H) (c : Outs H s.heap cs) (nb : ∀ b o, cs.lookup b = some o → base.get? b = none) (nf : ∀ b o, cs.lookup b = some o → b ∉ frs outer) : Env0 P w K mg base A outer s (lend H cs) :=
  ⟨e0.frames, e0.mod, fun b o e => ⟨(e0.bs b o e).1, by
    cases z : cs.lookup b with
    | some v =>
      rw [nb b v z] at e
      cases e
    | none =>
      rw [lend_out z]
      exact (e0.bs b o e).2⟩, e0.bsz, e0.funs, fun b hb => by
    cases z : cs.lookup b with
    | some v => exact absurd hb (nf b v z)
    | none =>
      rw [lend_out z]
      exact e0.frf b hb, lend_ok e0.hok c, e0.bare⟩
theorem ub_in {B : Heap} (u : UB fs (unl H cs) H' h B h') (c : Ins H cs) : UB fs H (lend H' cs) h B h' where
  keep := fun b o e n hf => u.keep b o e (by rw [unl_out (c.off n)]; exact n) hf
  slot := u.slot
  free := fun b o e n => by
    rw [lend_out (c.off n)]
    exact u.free b o e (by rw [unl_out (c.off n)]; exact n)
  there := u.there
  tups := fun b xs e => by
    have z := c.offO e fun _ => celO_tup
    rw [lend_out z]
    exact u.tups b xs (by rw [unl_out z]; exact e)
  frzs := fun b o v e => by
    have z := c.offO e fun _ => celO_frz
    rw [lend_out z]
    exact u.frzs b o v (by rw [unl_out z]; exact e)
  tbls := fun b ps e => by
    have z := c.offO e fun _ => celO_tbl
    rw [lend_out z]
    exact u.tbls b ps (by rw [unl_out z]; exact e)
theorem ce_out {outer : List Env} {s s' : Shared} {Q : VK} {u : Value} (x : CE outer P w (lend H cs) s (fun v H' => Ins H' cs ∧ Q v (unl H' cs)) u s') (c : Outs H s.heap cs) : CE outer P w H s Q u s' := by
  obtain ⟨v, H', os, bare, un, hok', r, i', q⟩ := x
  exact ⟨v, unl H' cs, os, bare, un_out un c i' hok', unl_ok hok' i', r, q⟩
end
/-! ### a function that is handed on: what stands, and what a call of it does -/
structure AskOk (P : Program) (w : World) (K : PySem.W.Frag) (mg : Str → Option Value) (base : Heap) (CX : CXT) (k : Nat) (f : Addr) (fs : List (Addr × HO)) (sp : Hp → VK → XK → Prop) : Prop where
  fn : ∀ (H : Hp) (h : Heap), HOk P w H h → (∀ p ∈ fs, H p.1 = some p.2) → PySem.W.FnAt f h
  run : ∀ (A : Around) (outer : List Env) (s : Shared) (H : Hp) (Q : VK) (E : XK), Room k A → Env0 P w K mg base A outer s H → (∀ p ∈ fs, H p.1 = some p.2) → sp H Q E → codeAny (model P w) A (.call (.ref f) ⟨[], []⟩) (CR CX outer P w H s Q E) s
def tAsk (P : Program) (w : World) (K : PySem.W.Frag) (mg : Str → Option Value) (base : Heap) (CX : CXT) (k i : Nat) (E : XK) : TE := fun σ H Q => ∃ (f : Addr) (fs : List (Addr × HO)) (sp : Hp → VK → XK → Prop), σ[i]? = some (some (.ref f)) ∧ AskOk P w K mg base CX k f fs sp ∧ (∀ p ∈ fs, H p.1 = some p.2) ∧ sp H Q E
/-! ### a lambda by its body -/
abbrev lamFd (name qual : Str) (params : Arguments) (body : Expr) (scope : Scope) (cl : List (Str × Addr)) (dV doc pm : Value) (c' : Addr) (ct : Value) : FuncData :=
  { name, qualname := qual, params, body := .expr body, scope, globals := mainGlobals, closure := cl, defaults := dV, kwdefaults := .none, doc, pyModule := pm, annotations := none, code := .ref c', closureTuple := ct, builtins := builtinsNs }
def FunO (f : Addr) (fd : FuncData) : HO := .ext fun h => ∃ (od : Option Addr) (sl : Array (Option Value)), h.get? f = some (⟨.type "function", od, .func fd, sl⟩ : Obj)
/-! ### a lambda is made -/
open NdefX LamX
section
variable {X : Cx} {pins : List (Addr × Obj)} {σ : L2.St} {H : Hp} {s : Shared}
theorem fun_laid {fd : FuncData} {t' : Nat} (I : Inv X pins σ H s) : Inv X pins σ (upd H s.heap.objs.size (FunO s.heap.objs.size fd)) { s with heap := s.heap.push { cls := .type "function", data := .func fd }, toks := t' } := by
  have e : (s.heap.push ({ cls := .type "function", data := .func fd } : Obj)).get? s.heap.objs.size = some ({ cls := .type "function", data := .func fd } : Obj) := Heap.get?_push_size _ rfl
  exact I.laid (fun b u e => Heap.get?_push_of_some _ e) (Nat.le_refl _) ⟨⟨_, _, e⟩, ⟨_, e⟩, fun h1 h2 ⟨od, sl, z⟩ st => ⟨od, sl, st _ z⟩⟩
/-- what is known behind: f is the new lambda, c' its code object; all that was tracked stays, tables may have grown -/
structure Made (H H1 : Hp) (T : List (Addr × Str)) (f c' : Addr) (q : Str) (fd : FuncData) : Prop where
  ext : ExtN H H1
  non : ∀ b, H1 b = none → H b = none
  tabs : Tabs T H1
  new : H f = none
  fn : H1 f = some (FunO f fd)
  code : H1 c' = some (CodeO c' q)
theorem lam_tail {T : List (Addr × Str)} {c P : Addr} {params : Arguments} {body : Expr} {scope : Scope} {pos : Pos} {dV : Value} {E : Value → Shared → Prop} {Q : Value → Shared → Prop} (I : Inv X pins σ H s) (TB : TabB X.base X.mg c P) (hcode : X.env.code = .ref c)
    (hm : (P, X.env.qual ++ "<lambda>") ∈ T) (hu : ∀ p ∈ T, p.1 = P → p.2 = X.env.qual ++ "<lambda>") (hT : Tabs T H) (hfree : ∀ y ∈ scope.names, y.2 = .free → ∃ c, X.env.cells.lookup y.1 = some c)
    (h : ∀ (f c' : Addr) (doc pm ct : Value) (H1 : Hp) (s' : Shared), Inv X pins σ H1 s' → Made H H1 T f c' (X.env.qual ++ "<lambda>") (lamFd "<lambda>" (X.env.qual ++ "<lambda>") params body scope (cloFrom X.env.cells scope.names []) dV doc pm c' ct) → Q (.ref f) s') :
    wpAny (model X.prog X.w) X.A (makeTail "<lambda>" (X.env.qual ++ "<lambda>") params (.expr body) scope X.env dV .none none pos pos.line) Q E s := by
  obtain ⟨ps, hP, ht, ha⟩ := hT _ hm
  have bP : s.heap.BuiltinsAt X.mg P := TB.bm.keeps I.bk
  have hP' : s.heap.get? P = some { cls := .none, data := .fields ps } := I.hok P _ hP
  have glob := I.mod.glob.keeps I.bk
  cases hc : codeAmong pos ps.toList with
  | some cv =>
    obtain ⟨c', rfl, hco⟩ := ha pos cv hc
    refine PySem.W.kdv_makeTailHit (closure_ok hfree) I.ok.glob glob hcode (TB.code.keeps I.bk) hP' ht hc bP fun ct doc h' tk hx hsz => ?_
    have I1 : Inv X pins σ H { s with heap := h', toks := tk } := I.kept hx
    have nF : H h'.objs.size = none := I1.hok.fresh (Nat.le_refl _)
    have up : ∀ b o, H b = some o → upd H h'.objs.size (FunO h'.objs.size (lamFd "<lambda>" (X.env.qual ++ "<lambda>") params body scope (cloFrom X.env.cells scope.names []) dV doc ((X.mg "__name__").getD .none) c' ct)) b = some o := fun b o e => by
      rw [upd_ne (ne_of_none e nF)]
      exact e
    exact h _ c' doc _ ct _ _ (fun_laid I1) ⟨ExtN.of up, fun b e => upd_none e, hT.ext up, nF, upd_same, up _ _ hco⟩
  | none =>
    refine PySem.W.kdv_makeTail (closure_ok hfree) I.ok.glob glob hcode (TB.code.keeps I.bk) hP' ht hc TB.gP bP fun c' ct doc h' tk hx hge hlt hrec htb => ?_
    obtain ⟨_, oc, vs, t, e2, hoc, hd, hv⟩ := hrec
    cases e2
    have nC : H c' = none := I.hok.fresh hge
    have I1 := inv_table (t' := tk) (more := #[rawInt pos.line, rawInt pos.col, .ref c']) (h' := h') I hP (fun b o hb e => hx b o hb e) htb hge ⟨oc, vs, t, hoc, hd, hv⟩
    have nF := I1.hok.fresh (Nat.le_refl _)
    have atC : upd (upd H P (.tbl (ps ++ #[rawInt pos.line, rawInt pos.col, .ref c']))) c' (CodeO c' (X.env.qual ++ "<lambda>")) c' = some (CodeO c' (X.env.qual ++ "<lambda>")) := upd_same
    have eN : ExtN H (upd (upd H P (.tbl (ps ++ #[rawInt pos.line, rawInt pos.col, .ref c']))) c' (CodeO c' (X.env.qual ++ "<lambda>"))) := fun b o e n => by
      have hb : b ≠ P := fun z => by
        rw [z, hP] at e
        exact n ps (Option.some.inj e).symm
      rw [upd_ne (ne_of_none e nC), upd_ne hb]
      exact e
    have T1 : Tabs T (upd (upd H P (.tbl (ps ++ #[rawInt pos.line, rawInt pos.col, .ref c']))) c' (CodeO c' (X.env.qual ++ "<lambda>"))) := fun p hp => by
      by_cases hb : p.1 = P
      · rw [hu p hp hb, hb]
        refine ⟨ps ++ #[rawInt pos.line, rawInt pos.col, .ref c'], by rw [upd_ne (ne_of_none hP nC), upd_same], ?_, fun p' cv hcv => ?_⟩
        · rw [Array.toList_append]
          exact PySem.TriplesOk_snoc _ _ _ _ ht
        · rw [Array.toList_append] at hcv
          rcases among_app _ ht hcv with z | z
          · obtain ⟨c0, e1, e2⟩ := ha p' cv z
            exact ⟨c0, e1, eN _ _ e2 codeO_ne⟩
          · exact ⟨c', z, atC⟩
      · obtain ⟨ps', a1, a2, a3⟩ := hT p hp
        refine ⟨ps', by rw [upd_ne (ne_of_none a1 nC), upd_ne hb]; exact a1, a2, fun p' cv hcv => ?_⟩
        obtain ⟨c0, e1, e2⟩ := a3 p' cv hcv
        exact ⟨c0, e1, eN _ _ e2 codeO_ne⟩
    have up : ∀ b o, upd (upd H P (.tbl (ps ++ #[rawInt pos.line, rawInt pos.col, .ref c']))) c' (CodeO c' (X.env.qual ++ "<lambda>")) b = some o → upd (upd (upd H P (.tbl (ps ++ #[rawInt pos.line, rawInt pos.col, .ref c']))) c' (CodeO c' (X.env.qual ++ "<lambda>"))) h'.objs.size (FunO h'.objs.size (lamFd "<lambda>" (X.env.qual ++ "<lambda>") params body scope (cloFrom X.env.cells scope.names []) dV doc ((X.mg "__name__").getD .none) c' ct)) b = some o := fun b o e => by
      rw [upd_ne (ne_of_none e nF)]
      exact e
    exact h _ c' doc _ ct _ _ (fun_laid I1) ⟨fun b o e n => up b o (eN b o e n), fun b e => upd_none (upd_none (upd_none e)), T1.ext up, I.hok.fresh (Nat.le_trans hge (Nat.le_of_lt hlt)), upd_same, up _ _ atC⟩
/-- what a lambda keeps of its default: nothing, or a pair's first -/
def DefsAt (H : Hp) (dV : Value) : List V → Prop
  | [] => dV = .none
  | ds => ∃ t : Addr, dV = .ref t ∧ H t = some (.tup ds)
/-- the reading of a lambda with these defaults' values, in H -/
def LamQ (T : List (Addr × Str)) (q : Str) (params : Arguments) (body : Expr) (scope : Scope) (cl : List (Str × Addr)) (ds : List V) (H : Hp) (Q : VK) : Prop :=
  Tabs T H ∧ ∀ (f c' : Addr) (dV doc pm ct : Value) (H1 H2 : Hp), (∀ b o, H b = some o → H1 b = some o) → (∀ b, H1 b = none → H b = none) → Made H1 H2 T f c' q (lamFd "<lambda>" q params body scope cl dV doc pm c' ct) → DefsAt H2 dV ds → Q (.ref f) H2
theorem pe_lam0 {T : List (Addr × Str)} {c P : Addr} {params : Arguments} {body : Expr} {scope : Scope} {pos : Pos} (TB : TabB X.base X.mg c P) (hcode : X.env.code = .ref c) (hm : (P, X.env.qual ++ "<lambda>") ∈ T) (hu : ∀ p ∈ T, p.1 = P → p.2 = X.env.qual ++ "<lambda>")
    (hfree : ∀ y ∈ scope.names, y.2 = .free → ∃ c, X.env.cells.lookup y.1 = some c) (hdef : defaultsOf params X.env = ([], [])) :
    PE X (.Lambda params body scope pos) (fun _ H Q => LamQ T (X.env.qual ++ "<lambda>") params body scope (cloFrom X.env.cells scope.names []) [] H Q) := by
  refine ⟨fun pins s σ H Q I h => PySem.W.kla_eval hdef ?_⟩
  rw [makeFunction_eq]
  simp only [List.zip_nil_right, List.filterMap_nil, List.isEmpty_nil, if_true, pure_bind]
  exact lam_tail I TB hcode hm hu h.1 hfree fun f c' doc pm ct H1 s' I1 M => ⟨.ref f, H1, I1, rfl, h.2 f c' .none doc pm ct H H1 (fun _ _ e => e) (fun _ e => e) M rfl⟩
theorem pe_lam1 {T : List (Addr × Str)} {c P : Addr} {params : Arguments} {e : Expr} {te : TE} {body : Expr} {scope : Scope} {pos : Pos} (TB : TabB X.base X.mg c P) (hcode : X.env.code = .ref c) (hm : (P, X.env.qual ++ "<lambda>") ∈ T) (hu : ∀ p ∈ T, p.1 = P → p.2 = X.env.qual ++ "<lambda>")
    (hfree : ∀ y ∈ scope.names, y.2 = .free → ∃ c, X.env.cells.lookup y.1 = some c) (hd : params.defaults = [e]) (hk0 : params.kw_defaults = []) (he : PE X e te) :
    PE X (.Lambda params body scope pos) (fun σ H Q => te σ H fun x H1 => LamQ T (X.env.qual ++ "<lambda>") params body scope (cloFrom X.env.cells scope.names []) [x] H1 Q) := by
  refine ⟨fun pins s σ H Q I h => PySem.W.kdv_lam (by rw [hd]; rfl) hk0 ?_⟩
  rw [hd]
  refine PySem.W.kdv_all1 (thn (he.run pins s σ H _ I h) fun v s1 ⟨x, H1, I1, r1, q⟩ => PySem.W.kdv_all0 ?_)
  rw [makeFunction_eq]
  simp only [List.zip_nil_right, List.filterMap_nil, List.isEmpty_nil, List.isEmpty_cons, Bool.false_eq_true, if_false, if_true, pure_bind]
  refine wpAny_bind (wpAny_newTextTuple ?_)
  have hn : H1 s1.heap.objs.size = none := I1.hok.fresh (Nat.le_refl _)
  have ht : (s1.heap.push ({ cls := .type "tuple", data := .seq [v].toArray } : Obj)).get? s1.heap.objs.size = some ({ cls := .type "tuple", data := .seq [v].toArray } : Obj) := Heap.get?_push_size _ rfl
  have I2 : Inv X pins σ (upd H1 s1.heap.objs.size (.tup [x])) { s1 with heap := s1.heap.push ({ cls := .type "tuple", data := .seq [v].toArray } : Obj), toks := s1.toks } :=
    I1.laid (fun b u e => Heap.get?_push_of_some _ e) (Nat.le_refl _) ⟨by show 1 ≤ sizeLine; decide, [v], .cons r1 .nil, _, ht, rfl, _, rfl⟩
  have up : ∀ b o, H1 b = some o → upd H1 s1.heap.objs.size (.tup [x]) b = some o := fun b o e => by
    rw [upd_ne (ne_of_none e hn)]
    exact e
  exact lam_tail I2 TB hcode hm hu (q.1.ext up) hfree fun f c' doc pm ct H2 s' I3 M => ⟨.ref f, H2, I3, rfl, q.2 f c' _ doc pm ct _ H2 up (fun b e => upd_none e) M ⟨_, rfl, M.ext _ _ upd_same (fun ps z => by cases z)⟩⟩
/-! ### a call to which the cells are lent -/
/-- cs: cells of one's own, those of ys among them, with what the names hold -/
structure CellV (X : Cx) (σ : L2.St) (ys : List Str) (cs : List (Addr × Obj)) : Prop where
  own : ∀ b o, cs.lookup b = some o → ∃ y, X.env.cells.lookup y = some b ∧ X.fn y = true
  val : ∀ y ∈ ys, ∃ (c : Addr) (o : Obj) (i : Nat) (v : V) (u : Value), X.env.cells.lookup y = some c ∧ cs.lookup c = some o ∧ X.N[i]? = some y ∧ σ[i]? = some (some v) ∧ L2.RelV v u ∧ o.data = .cell (some u)
/-- the reading of a call to which the cells of ys are lent -/
def tCallL (X : Cx) (ys : List Str) (sp : Sp) (dvs : List V) (t : TA) : TE := fun σ H Q => t σ H fun vs H1 => (∀ y ∈ ys, ∃ (i : Nat) (v : V), X.N[i]? = some y ∧ σ[i]? = some (some v) ∧ X.env.scope.names.lookup y = some .cell ∧ X.fn y = true) ∧
  ∀ cs, CellV X σ ys cs → (∀ b o, cs.lookup b = some o → H1 b = none) → sp (vs ++ dvs) (lend H1 cs) (fun v H2 => Ins H2 cs ∧ Q v (unl H2 cs)) C8.E0
end
end Lend
namespace Lend
open PySem PySem.Spec PyProof.Rows L2
/-! ### a caught error handed on: the reading of its fields -/
/-- the reading of e.n -/
def tErf (K : PySem.W.Frag) (n : Str) (te : TE) : TE := fun σ H Q => te σ H fun x H1 => ∃ (a C d : Addr) (fs : List (Str × V)) (v : V), x = .ref a ∧ XfC K C ∧ PySem.W.findIn K (.ref C) n = some none ∧ (∃ oe vs, H1 a = some (CelO a oe) ∧ Zc (.ref C) (some d) oe ∧ oe.data = .fields vs) ∧ H1 d = some (.xd fs) ∧ fs.lookup n = some v ∧ Q v H1
/-- the reading of a call to which a pinned object is lent -/
def tCallP (a : Addr) (oe : Obj) (sp : Sp) (dvs : List V) (t : TA) : TE := fun σ H Q => t σ H fun vs H1 => H1 a = none → sp (vs ++ dvs) (lend H1 [(a, oe)]) (fun v H2 => Ins H2 [(a, oe)] ∧ Q v (unl H2 [(a, oe)])) C8.E0
end Lend
namespace Kk
open PySem L2 PyProof.Rows

end Kk
namespace Lend
open PySem PySem.Spec PyProof.Rows L2
/-! ### try: .. except (A, B) as n: .. -/
theorem fly_more {B h h' : Heap} {l : List Env} {e : Addr} {Z : Obj → Prop} (f : HandSPX.FlyingZ B l e Z h) (k : ∀ b o, h.get? b = some o → h'.get? b = some o) : HandSPX.FlyingZ B l e Z h' := by
  obtain ⟨f1, f2, f3, oe, vs, T, oT, ts, a1, a2, a3, a4, a5, a6, a7, a8, a9⟩ := f
  exact ⟨fun b o e => k b o (f1 b o e), f2, Heap.FunFrames.of_keeps (fun b o e _ => ⟨o, k b o e, rfl⟩) f3, oe, vs, T, oT, ts, k _ _ a1, a2, a3, a4, a5, a6, k _ _ a7, a8, a9⟩
/-- what the clause wishes of an exception of the body: it is one of both; then the suite with it at slot i -/
def wTup (K : PySem.W.Frag) (c1 c2 : Value) (i : Nat) (ts : Addr → Obj → Value → Option Addr → TS) (D : Ends) : WX := fun cls d σ H => PySem.W.exmAny K cls [c1, c2] = some true ∧
  ∀ a oe, H a = none → ts a oe cls d { nx := fun σ' H' => D.nx (σ'.set i none) H', rt := D.rt, bk := fun σ' H' => D.bk (σ'.set i none) H', ct := fun σ' H' => D.ct (σ'.set i none) H' } (σ.set i (some (.ref a))) H
section
variable {X : Cx} {x1 x2 n : Str} {c1 c2 : Value} {i : Nat} {body suite : List Stmt} {b₀ : Stmt} {q1 q2 tp pos pos' : Pos} {kk : Nat} {tb : WX → TS} {ts : Addr → Obj → Value → Option Addr → TS}
end
end Lend
namespace Kk
open PySem L2 PyProof.Rows

end Kk
namespace LendN
open PySem PySem.Spec PyProof.Rows L2
/-! ### try: .. except (A, B) as n: .., the errors' context told -/
/-- what the clause wishes of an exception of the body: it is one of both; then the suite with it at slot i -/
def wTup (K : PySem.W.Frag) (c1 c2 : Value) (i : Nat) (ts : Addr → Obj → Value → Option Addr → TS) (D : Ends) : WX := fun cls d σ H => PySem.W.exmAny K cls [c1, c2] = some true ∧
  ∀ a oe, H a = none → ts a oe cls d { nx := fun σ' H' => D.nx (σ'.set i none) H', rt := D.rt, bk := fun σ' H' => D.bk (σ'.set i none) H', ct := fun σ' H' => D.ct (σ'.set i none) H' } (σ.set i (some (.ref a))) H
section
variable {X : Cx} {x1 x2 n : Str} {c1 c2 : Value} {i : Nat} {body suite : List Stmt} {b₀ : Stmt} {q1 q2 tp pos pos' : Pos} {kk : Nat} {tb : WX → TS} {ts : Addr → Obj → Value → Option Addr → TS}
theorem named {x : Str} {c : Value} {q : Pos} {pins : List (Addr × Obj)} {σ : L2.St} {H : Hp} {s : Shared} {Q : Value → Shared → Prop} {E : Value → Shared → Prop} {a : Addr} {pn : List (Addr × Obj)} (hc : Names X x c) (S : Inv (X.suite a pn) pins σ H s) (h : Q c s) :
    wpAny (model X.prog X.w) (X.A.mark (some (.ref a))) (eval (.Name x q) X.env) Q E s := by
  obtain ⟨hg, hd, hm | ⟨hm, hv, hn⟩⟩ := hc
  · exact ld_glob (X := X.suite a pn) S hg hm h hd
  · exact ld_blt (X := X.suite a pn) S hg hm hv h hn hd
theorem ps_try_tup (hs : X.stack = X.env :: X.outer) (hf : X.env.frame = some X.env.locals) (hN : X.N.Nodup) (hi : X.N[i]? = some n) (hln : X.env.kindOf n = some .local) (hc1 : Names X x1 c1) (hc2 : Names X x2 c2)
    (hb : ∀ (W : WX) (pn : List (Addr × Obj)) (xe : Value → Shared → Prop), L2N.Takes (X.tr pn xe) W → PassesOwn (model X.prog X.w) X.A X.env xe → PSs (X.tr pn xe) body (tb W))
    (hsu : ∀ (a : Addr) (oe : Obj) (cls : Value) (d : Option Addr) (pn : List (Addr × Obj)), L2N.Zn cls d oe → (∃ vs, oe.data = .fields vs) → X.base.get? a = none → PSs (X.suite a ((a, oe) :: pn)) (b₀ :: suite) (ts a oe cls d)) :
    PS X (.Try body [.ExceptHandler (some (.Tuple [.Name x1 q1, .Name x2 q2] kk tp)) (some n) (b₀ :: suite) pos'] [] [] pos) (fun D σ H => tb (wTup X.K c1 c2 i ts D) D σ H) := by
  refine ⟨fun pins s σ H D I h => wpAny_Try_except ?_⟩
  have ok := I.ok
  have over : X.A.frames = some (X.env :: X.outer) := ok.frames.trans (congrArg some hs)
  refine wpAny_mono ((hb (wTup X.K c1 c2 i ts D) (X.pn ++ pins) _ (fun u s' xx => ?_) PassesOwn.looking).run [] s σ H D (I.toTry _) h) (fun f s1 hsp => ?_) (fun e s1 he => he)
  · obtain ⟨a, B, sI, pins', σ', H', cls, d, rfl, J', nb, up, sky, na, os, ag, hm, go⟩ := xx
    have J : Inv X pins σ' H' sI := J'.ofTry ok
    refine L2N.Sky.land L2N.Zn.steady over hf (hs ▸ sky) fun h3 fl3 up3 => ?_
    have J3 : Inv X pins σ' H' { s' with heap := h3 } := J.landed nb fl3.1 (up.trans up3) os ag
    have apart : ∀ b ∈ frs (X.env :: X.outer), b ≠ a := fun b hb e => by
      obtain ⟨oe, vs, he, _, hd⟩ := fl3.there
      obtain ⟨_, o, ho, hn⟩ := fl3.2.2.1.mem hb
      rw [e, he] at ho
      exact hn vs (Option.some.inj ho ▸ hd)
    have nL : a ≠ X.env.locals := fun e => apart _ (List.mem_filterMap.mpr ⟨X.env, List.mem_cons_self, hf⟩) e.symm
    have nF : a ∉ X.fs := fun hm => by
      obtain ⟨e, he, q⟩ := List.mem_filterMap.mp hm
      exact apart a (List.mem_filterMap.mpr ⟨e, List.mem_cons_of_mem _ he, q⟩) rfl
    have nB : X.base.get? a = none := by
      cases e : X.base.get? a with
      | none => rfl
      | some o =>
        have z := nb a o (J.bs a o e).1 (by rw [hs]; exact fun hb => apart a hb rfl)
        rw [fl3.2.1] at z
        cases z
    obtain ⟨oe3, vs3, he3, hz3, hd3⟩ := fl3.there
    have S3 := J3.suite he3 hd3 na nL nF
    refine wpAny_handleBy_cons (codeAny_handlers_test (Tuple_ ?_)) (by intro q; cases q)
    show wpAny _ _ (spliced [(false, eval (.Name x1 q1) X.env), (false, eval (.Name x2 q2) X.env)]) _ _ _
    refine Calls.spliced_cons (named hc1 S3 (Calls.spliced_cons (named hc2 S3 (Calls.spliced_nil (wpAny_newTuple ?_)))))
    have kp : ∀ b o, h3.get? b = some o → (h3.push ({ cls := .type "tuple", data := .seq [c1, c2].toArray } : Obj)).get? b = some o := fun b o e => Heap.get?_push_of_some _ e
    have LT : PySem.W.Looks (model X.prog X.w) (h3.push ({ cls := .type "tuple", data := .seq [c1, c2].toArray } : Obj)) (typeOf (.ref a)) cls := fun A Q E s k q => wpAny_typeOf_ref (k _ _ (kp _ _ he3)) (by rw [hz3.1]; exact q)
    refine (PySem.W.exm_tup2 (M := model X.prog X.w) (J3.kIn.keeps kp) LT (Heap.get?_push_size _ rfl) hm).here ?_
    refine codeAny_handlers_suite_as (HandSPX.lands_againZ (Lend.fly_more fl3 kp) fun h4 fl4 up4 => ?_)
    have up34 : h3.UpToSlots h4 := fun b o e hn => up4 b o (kp b o e) hn
    have J4 : Inv X pins σ' H' { s' with heap := h4 } := J.landed nb fl4.1 ((up.trans up3).trans up34) os ag
    obtain ⟨oe4, vs4, he4, hz4, hd4⟩ := fl4.there
    refine store_ok (X := X.suite a ((a, oe4) :: (X.pn ++ pins))) (v := .ref a) (J4.suite he4 hd4 na nL nF) hN hi (.inl hln) rfl (fun s5 S5 => ?_) (.inr hln)
    refine wpAny_mono ((hsu a oe4 cls d (X.pn ++ pins) hz4 ⟨_, hd4⟩ nB).run [] s5 _ H' _ S5 (go a oe4 na)) (fun f s6 hsp => ?_) (fun _ _ z => False.elim z)
    have away : ∀ {σ6 : L2.St} {H6 : Hp} {Q : Shared → Prop}, Inv (X.suite a ((a, oe4) :: (X.pn ++ pins))) [] σ6 H6 s6 → (∀ s7, Inv X pins (σ6.set i none) H6 s7 → Q s7) →
        wpAny (model X.prog X.w) X.A (do bindName X.env n .none; unbindBehindTheSuite X.env n pos') (fun _ s7 => Q s7) X.xe s6 := fun S6 hq => gone_ok (S6.unsuite ok) hN hi hln hq
    cases f with
    | next =>
      obtain ⟨_, _, S6, q6⟩ := hsp
      exact away S6 fun _ J7 => ⟨_, _, J7, q6⟩
    | brk =>
      obtain ⟨_, _, S6, q6⟩ := hsp
      exact away S6 fun _ J7 => ⟨_, _, J7, q6⟩
    | cont =>
      obtain ⟨_, _, S6, q6⟩ := hsp
      exact away S6 fun _ J7 => ⟨_, _, J7, q6⟩
    | ret u =>
      obtain ⟨_, _, _, S6, r6, q6⟩ := hsp
      exact away S6 fun _ J7 => ⟨_, _, _, J7, r6, q6⟩
  · cases f with
    | next =>
      obtain ⟨_, _, J', q⟩ := hsp
      exact wpAny_execs_nil ⟨_, _, J'.ofTry ok, q⟩
    | brk =>
      obtain ⟨_, _, J', q⟩ := hsp
      exact ⟨_, _, J'.ofTry ok, q⟩
    | cont =>
      obtain ⟨_, _, J', q⟩ := hsp
      exact ⟨_, _, J'.ofTry ok, q⟩
    | ret u =>
      obtain ⟨_, _, _, J', r, q⟩ := hsp
      exact ⟨_, _, _, J'.ofTry ok, r, q⟩
end
end LendN
namespace Kk
open PySem L2 PyProof.Rows

end Kk
namespace LendN
open PySem PySem.Spec PyProof.Rows L2 Lend
/-! ### errors through lent cells, the errors' context told -/
section
variable {P : Program} {w : World} {H H' : Hp} {h h' : Heap} {cs : List (Addr × Obj)} {fs : List Addr} {b : Addr} {o : Obj}
/-- nothing is told at the cells -/
def Offs (H : Hp) (cs : List (Addr × Obj)) : Prop := ∀ b o, cs.lookup b = some o → H b = none
theorem cx_in {outer : List Env} {s s' : Shared} {E : XK} {u : Value} (x : L2N.CX P w outer (unl H cs) s (fun cls d H' => Offs H' cs → E cls d (lend H' cs)) u s') (hok : HOk P w H s.heap) (c : Ins H cs) (nf : ∀ b o, cs.lookup b = some o → b ∉ frs outer) : L2N.CX P w outer H s E u s' := by
  obtain ⟨a, B, H', cls, d, e, fl, hok', ub, na, os, ag, hE⟩ := x
  have o' : Outs H' B cs := fun b o z => by
    have hb := cel_at hok (c b o z)
    exact ⟨ub.keep b o hb (unl_in z) (nf b o z), ub.free b o hb (unl_in z)⟩
  have z : cs.lookup a = none := by
    cases z : cs.lookup a with
    | none => rfl
    | some o =>
      have y := fl.2.1
      rw [(o' a o z).1] at y
      cases y
  exact ⟨a, B, lend H' cs, cls, d, e, fl, lend_ok hok' o', ub_in ub c, by rw [lend_out z]; exact na, os, ag, hE fun b o z => (o' b o z).2⟩
theorem ce_in {outer : List Env} {s s' : Shared} {Q : VK} {u : Value} (x : CE outer P w (unl H cs) s (fun v H' => Offs H' cs → Q v (lend H' cs)) u s') (hok : HOk P w H s.heap) (c : Ins H cs) (nf : ∀ b o, cs.lookup b = some o → b ∉ frs outer) : CE outer P w H s Q u s' := by
  obtain ⟨v, H', os, bare, un, hok', r, q⟩ := x
  have o' := outs_after un hok c nf
  exact ⟨v, lend H' cs, os, bare, un_in un c, lend_ok hok' o', r, q fun b o z => (o' b o z).2⟩
end
open NdefX LamX in
theorem ask_of {P : Program} {w : World} {K : PySem.W.Frag} {mg : Str → Option Value} {base : Heap} {k : Nat} {f c' : Addr} {name qual : Str} {params : Arguments} {body : Expr} {scope : Scope} {cl : List (Str × Addr)} {dV doc pm ct : Value} {cs : List (Addr × Obj)} {N ps fr : List Str} {vs : List V} {ws : List (Option V)} {fs : List (Addr × HO)} {sp : Hp → VK → XK → Prop}
    (S : NScope N ps fr scope) (m1 : (f, FunO f (lamFd name qual params body scope cl dV doc pm c' ct)) ∈ fs) (m2 : (c', CodeO c' qual) ∈ fs) (m3 : ∀ b o, cs.lookup b = some o → (b, CelO b o) ∈ fs)
    (len : ws.length = fr.length) (inj : ∀ x y c, cl.lookup x = some c → cl.lookup y = some c → x = y) (all : ∀ y c, cl.lookup y = some c → ∃ o v, cs.lookup c = some o ∧ o.data = .cell v)
    (has : ∀ (i : Nat) (y : Str), fr[i]? = some y → ∃ c o, cl.lookup y = some c ∧ cs.lookup c = some o ∧ ∀ v, ws[i]? = some (some v) → ∃ u, L2.RelV v u ∧ o.data = .cell (some u))
    (hbind : ∀ (s : Shared) (H : Hp), HOk P w H s.heap → (∀ p ∈ fs, H p.1 = some p.2) → ∃ us, BindsTo s (lamFd name qual params body scope cl dV doc pm c' ct) ⟨[], []⟩ (ps.zip us) ∧ Vals vs us) (hl : vs.length = ps.length)
    (hrun : ∀ (A : Around) (outer : List Env) (s : Shared) (H : Hp) (Q : VK) (E : XK), Room k (A.deeper (envF ⟨name, qual, params, [], scope, cl, c'⟩ f s.heap.objs.size)) → (∀ p ∈ fs, H p.1 = some p.2) → sp H Q E →
      ∃ tb, PE (ncx (L2N.CX P w) P w K mg base N ⟨name, qual, params, [], scope, cl, c'⟩ f A outer s (unl H cs) (fun cls d H' => Offs H' cs → E cls d (lend H' cs))) body tb ∧ tb (startF N vs ws) (unl H cs) (fun v H' => Offs H' cs → Q v (lend H' cs))) :
    AskOk P w K mg base (L2N.CX P w) (k + 1) f fs sp := by
  refine ⟨fun H h hok hf => ?_, fun A outer s H Q E hr e0 hf q => ?_⟩
  · have x : ObjOk P w H h f (FunO f (lamFd name qual params body scope cl dV doc pm c' ct)) := hok f _ (hf _ m1)
    obtain ⟨⟨od, sl, ho⟩, _, _⟩ := x
    exact ⟨_, _, _, _, ho⟩
  · have ins : Ins H cs := fun b o z => hf _ (m3 b o z)
    have nf : ∀ b o, cs.lookup b = some o → b ∉ frs outer := fun b o z hb => by
      have y := e0.frf b hb
      rw [ins b o z] at y
      cases y
    have e1 := env0_unl e0 ins
    have lim : s.heap.NoLimit := e0.mod.nolimit.keeps fun b o e => (e0.bs b o e).1
    have C : CellsAt cl fr ws s.heap (unl H cs) := by
      refine ⟨len, fun y c e => ?_, inj, fun i y e => ?_⟩
      · obtain ⟨o, v, h1, h2⟩ := all y c e
        exact ⟨unl_in h1, v, o, cel_at e0.hok (ins c o h1), h2⟩
      · obtain ⟨c, o, h1, h2, h3⟩ := has i y e
        refine ⟨c, h1, fun v z => ?_⟩
        obtain ⟨u, r, hd⟩ := h3 v z
        exact ⟨u, r, o, cel_at e0.hok (ins c o h2), hd⟩
    have x : ObjOk P w H s.heap f (FunO f (lamFd name qual params body scope cl dV doc pm c' ct)) := e0.hok f _ (hf _ m1)
    obtain ⟨⟨od, sl, ho⟩, _, _⟩ := x
    have hcr := codeO_at e0.hok (hf _ m2)
    obtain ⟨us, hbd, hvs⟩ := hbind s H e0.hok hf
    obtain ⟨tb, ht, hq⟩ := hrun A outer s H Q E (hr.deeper _) hf q
    refine codeAny_mono (R := CR (L2N.CX P w) outer P w (unl H cs) s (fun v H' => Offs H' cs → Q v (lend H' cs)) (fun cls d H' => Offs H' cs → E cls d (lend H' cs))) ?_ (fun r s' hq => ?_)
    · refine PySem.W.kla_callFunE hr.depth ho rfl S.co S.gen rfl hcr ?_
      refine hbd _ _ _ _ ?_
      refine wpAny_newFunctionEnv S.nocell (fun ⟨n, _⟩ hy => S.par n (List.of_mem_zip hy).1) (fun h₁ hns hsb => ⟨lim.fresh _ hsb, ?_⟩) S.kind
      show codeAny _ _ (.expr body (envF ⟨name, qual, params, [], scope, cl, c'⟩ f s.heap.objs.size)) _ _
      have kp : ∀ b o, s.heap.get? b = some o → h₁.get? b = some o := fun b o e => hsb.extBut b o (Nat.ne_of_lt (Heap.lt_size e)) (Heap.get?_push_of_some _ e)
      have I : Inv (ncx (L2N.CX P w) P w K mg base N ⟨name, qual, params, [], scope, cl, c'⟩ f A outer s (unl H cs) (fun cls d H' => Offs H' cs → E cls d (lend H' cs))) [] (startF N vs ws) (unl H cs) { s with heap := h₁, toks := s.toks + (ps.zip us).length } :=
        inv_startN (F := ⟨name, qual, params, [], scope, cl, c'⟩) S hr.hd e1 hl hvs C hns kp
      refine PySem.W.kla_codeExpr (wpAny_mono (ht.run [] _ (startF N vs ws) (unl H cs) _ I hq) (fun v s' hs => ?_) fun e s' hs => hs)
      obtain ⟨y, H', J, rv, q⟩ := hs
      exact ⟨y, H', J.os, J.bare, J.base, J.hok, rv, q⟩
    · cases r with
      | error e => exact cx_in hq e0.hok ins nf
      | ok fl =>
        cases fl with
        | ret u => exact ce_in hq e0.hok ins nf
        | next => exact False.elim hq
        | brk => exact False.elim hq
        | cont => exact False.elim hq
end LendN
namespace Kk
open PySem L2 PyProof.Rows

end Kk
namespace LendN
open PySem PySem.Spec PyProof.Rows L2
/-! ### X(e, ..) as what is raised, its context told to be None -/
theorem pmkN_own {X : Cx} {CX : CXT} {x : Str} {e : Expr} {es : List Expr} {ta : TA} {p pos : Pos} {C fI : Addr} {k : Nat} {fd : FuncData} {ps : List Str} {sp : Sp} (T : OexC X.K C) (iC : PySem.W.findIn X.K (.ref C) "__init__" = some (some (.ref fI))) (tI : PySem.W.typeIn X.K (.ref fI) = some (.type "function"))
    (F1 : FnOk X.prog X.w X.K X.mg X.base CX k fI fd ps sp) (hr : Room (k + 1) X.A) (hb : Binds X.K fd ps []) (hx : Passes CX X (fun _ _ _ => False)) (hg : Gl X x) (hm : X.mg x = some (.ref C)) (ha : PA X (e :: es) ta)
    (hdb : (x == ("__debug__" : Str)) = false := by decide) (he : starEach (e :: es) X.env = (false, eval e X.env) :: starEach es X.env := by rfl) (hpl : (backTo pos (starEach es X.env)).any (·.1) = false := by rfl) :
    L2N.PMk X (.Call (.Name x p) (e :: es) [] pos) (tMkO C sp [] ta) := fun pins s σ H Q I h => by
  obtain ⟨nm, q, N, bs, bm, sn, sub, ab, col, dd, k0, k1, k2, k3, k5, hC, hbm⟩ := T.cls
  refine wpAny_Call_Name_kw (ld_glob I hg hm (PySem.W.callWith_K (h₀ := X.base) I.ok.mod.kin T.kC (thn (ha.run pos pins s σ H _ I h) fun us s1 ⟨vs, H1, I1, r1, hz, q1⟩ => ⟨I1.kIn, ?_⟩) he hpl) hdb)
  obtain ⟨hp, g, dr, tk, os⟩ := s1
  have two : ∀ b o, hp.get? b = some o → ((hp.push (PySem.W.kdv_tup us)).push (PySem.HandSPX.excO C hp.objs.size)).get? b = some o := fun b o e => Heap.get?_push_of_some _ (Heap.get?_push_of_some _ e)
  have I2 := I1.laid (t' := tk) (o := exo (hp.objs.size + 1) C none) two (Nat.le_succ _) (exo_ok (t1 := hp.objs.size) (by heap_get))
  have hq := q1 (hp.objs.size + 1) (I1.hok.fresh (Nat.le_succ _))
  rw [List.append_nil] at hq
  have r2 : Vals (V.ref (hp.objs.size + 1) :: vs) (Value.ref (hp.objs.size + 1) :: us) := .cons rfl r1
  have b2 := hb _ (Value.ref (hp.objs.size + 1) :: us) I2.kIn (by rw [List.append_nil, ← r2.length]; exact F1.len _ _ _ _ hq)
  rw [List.append_nil] at b2
  show wpAny _ _ (call (.ref C) us) _ _ _
  refine wpAny_call (PySem.HandSPX.call_own F.excBase_ValueError (fun Y => PySem.HandSPX.refsVE_contains Y bm hbm) (I1.kIn _ _ hC) (PySem.W.looks_findIn I1.kIn iC) (fun self => PySem.W.bind_fn I1.kIn self tI) (by rw [← Paired.length r1, sizeLine_eq]; omega)
    (codeAny_mono (F1.run _ X.stack _ _ ⟨Value.ref (hp.objs.size + 1) :: us, []⟩ _ _ _ (fun _ _ _ => False) (hr.make C us []) (I2.env0.make C us []) b2 r2 hq) fun r s' hq' => ?_))
  match r, hq' with
  | .error er, hq' => exact hx pins σ _ _ er s' I2 hq'
  | .ok (.ret u), ⟨v, H2, os2, bare2, un2, hok2, rv, ev, d, fs, ea, ed, hd1, q2⟩ =>
    subst ev
    obtain ⟨h2, g2, d2, t2, os'⟩ := s'
    obtain ⟨t0, G, J, kG, ge, hoe, na⟩ := mk_end0 (d2 := d2) (t2 := t2) I1 (Nat.le_succ _) two un2 hok2 os2 bare2 ea ed hd1
    exact ⟨rv, hp.objs.size + 1, _, _, ⟨G, g2, d2, t2, os'⟩, _, .ref C, some d, rfl, J, kG, ge, hoe, ⟨rfl, rfl, fun vs hv => by cases hv; rfl⟩, rfl, rfl, na, rfl, bare2, raises_own T.exC T.tyC, q2⟩
/-- X() as what is raised -/
theorem pmkN_own0 {X : Cx} {CX : CXT} {x : Str} {p pos : Pos} {C fI : Addr} {k : Nat} {fd : FuncData} {ps : List Str} {sp : Sp} (T : OexC X.K C) (iC : PySem.W.findIn X.K (.ref C) "__init__" = some (some (.ref fI))) (tI : PySem.W.typeIn X.K (.ref fI) = some (.type "function"))
    (F1 : FnOk X.prog X.w X.K X.mg X.base CX k fI fd ps sp) (hr : Room (k + 1) X.A) (hb : Binds X.K fd ps []) (hx : Passes CX X (fun _ _ _ => False)) (hg : Gl X x) (hm : X.mg x = some (.ref C)) 
    (hdb : (x == ("__debug__" : Str)) = false := by decide) :
    L2N.PMk X (.Call (.Name x p) [] [] pos) (tMkO C sp [] tNil) := fun pins s1 σ H1 Q I1 h => by
  obtain ⟨nm, q, N, bs, bm, sn, sub, ab, col, dd, k0, k1, k2, k3, k5, hC, hbm⟩ := T.cls
  obtain ⟨us, hus⟩ : ∃ us : List Value, us = [] := ⟨_, rfl⟩
  obtain ⟨vs, hvs⟩ : ∃ vs : List V, vs = [] := ⟨_, rfl⟩
  have r1 : Vals vs us := by rw [hus, hvs]; exact .nil
  have hz : vs.length ≤ 1000 := by rw [hvs]; decide
  have q1 := h.2
  refine wpAny_Call_Name_kw (ld_glob I1 hg hm (PySem.W.callWith_K0 I1.kIn T.kC ?_) hdb)
  rw [show ([] : List Value) ++ [] = us by rw [hus]; rfl]
  obtain ⟨hp, g, dr, tk, os⟩ := s1
  have two : ∀ b o, hp.get? b = some o → ((hp.push (PySem.W.kdv_tup us)).push (PySem.HandSPX.excO C hp.objs.size)).get? b = some o := fun b o e => Heap.get?_push_of_some _ (Heap.get?_push_of_some _ e)
  have I2 := I1.laid (t' := tk) (o := exo (hp.objs.size + 1) C none) two (Nat.le_succ _) (exo_ok (t1 := hp.objs.size) (by heap_get))
  have hq := q1 (hp.objs.size + 1) (I1.hok.fresh (Nat.le_succ _))
  rw [List.nil_append, ← hvs] at hq
  have r2 : Vals (V.ref (hp.objs.size + 1) :: vs) (Value.ref (hp.objs.size + 1) :: us) := .cons rfl r1
  have b2 := hb _ (Value.ref (hp.objs.size + 1) :: us) I2.kIn (by rw [List.append_nil, ← r2.length]; exact F1.len _ _ _ _ hq)
  rw [List.append_nil] at b2
  show wpAny _ _ (call (.ref C) us) _ _ _
  refine wpAny_call (PySem.HandSPX.call_own F.excBase_ValueError (fun Y => PySem.HandSPX.refsVE_contains Y bm hbm) (I1.kIn _ _ hC) (PySem.W.looks_findIn I1.kIn iC) (fun self => PySem.W.bind_fn I1.kIn self tI) (by rw [← Paired.length r1, sizeLine_eq]; omega)
    (codeAny_mono (F1.run _ X.stack _ _ ⟨Value.ref (hp.objs.size + 1) :: us, []⟩ _ _ _ (fun _ _ _ => False) (hr.make C us []) (I2.env0.make C us []) b2 r2 hq) fun r s' hq' => ?_))
  match r, hq' with
  | .error er, hq' => exact hx pins σ _ _ er s' I2 hq'
  | .ok (.ret u), ⟨v, H2, os2, bare2, un2, hok2, rv, ev, d, fs, ea, ed, hd1, q2⟩ =>
    subst ev
    obtain ⟨h2, g2, d2, t2, os'⟩ := s'
    obtain ⟨t0, G, J, kG, ge, hoe, na⟩ := mk_end0 (d2 := d2) (t2 := t2) I1 (Nat.le_succ _) two un2 hok2 os2 bare2 ea ed hd1
    exact ⟨rv, hp.objs.size + 1, _, _, ⟨G, g2, d2, t2, os'⟩, _, .ref C, some d, rfl, J, kG, ge, hoe, ⟨rfl, rfl, fun vs hv => by cases hv; rfl⟩, rfl, rfl, na, rfl, bare2, raises_own T.exC T.tyC, q2⟩
theorem okN {P : Program} {w : World} {K : PySem.W.Frag} {mg : Str → Option Value} {base : Heap} {x qual : Str} {st : Stmt} {f : Addr} {fd : FuncData} {N ps : List Str} {k : Nat} {sp : Sp} (F : Fun K x qual st f fd) (S : FnScope N ps (defScope st)) (len : ∀ vs H Q E, sp vs H Q E → vs.length = ps.length)
    (hbody : ∀ (cdv : Value) (A : Around) (outer : List Env) (s : Shared) (H : Hp) (vs : List V) (Q : VK) (E : XK), Room k (A.deeper (envOfC qual (defScope st) s.heap.objs.size f cdv)) → sp vs H Q E →
      ∃ t, PSs (cxOf (L2N.CX P w) P w K mg base N qual (defScope st) f cdv A outer s H E) (defBody st) t ∧ t { nx := fun _ H' => Q .non H', rt := Q } (L2.start N vs) H) : FnOk P w K mg base (L2N.CX P w) (k + 1) f fd ps sp := by
  obtain ⟨oc, od, kV, doc, pm, an, cdv, ct, osl, rfl, lk, hcd⟩ := F.ex
  exact fn_of lk hcd S len fun A outer s H vs Q E hr hsp => hbody cdv A outer s H vs Q E hr hsp
/-- ask() on a local name, what it lets out told of the very state -/
def tAskS (P : Program) (w : World) (K : PySem.W.Frag) (mg : Str → Option Value) (base : Heap) (k i : Nat) (W : WX) : TE := fun σ H Q => ∃ (f : Addr) (fs : List (Addr × HO)) (sp : Hp → VK → XK → Prop), σ[i]? = some (some (.ref f)) ∧ Lend.AskOk P w K mg base (L2N.CX P w) k f fs sp ∧ (∀ p ∈ fs, H p.1 = some p.2) ∧ sp H Q (fun cls d H' => W cls d σ H')
theorem pe_askS {X : Cx} {k i : Nat} {W : WX} {a : Str} {p1 p2 : Pos} (hr : Room k X.A) (tk : L2N.Takes X W) (hN : X.N[i]? = some a) (hv : Vis X.env.scope a) (hd : (a == ("__debug__" : Str)) = false := by decide) (hcd : (a == ("__classdict__" : Str)) = false := by decide) :
    PE X (.Call (.Name a p1) [] [] p2) (tAskS X.prog X.w X.K X.mg X.base k i W) := by
  refine ⟨fun pins s σ H Q I h => ?_⟩
  obtain ⟨f, fs, sp, hs, ok, hf, q⟩ := h
  refine wpAny_Call_Name_kw (thn ((pe_var (pos := p1) (i := i) hN hv hd hcd).run pins s σ H (fun v H1 => v = .ref f ∧ H1 = H) I ⟨.ref f, hs, rfl, rfl⟩) fun u s1 ⟨v, H1, I1, r1, ev, eH⟩ => ?_)
  subst ev
  rw [eH] at I1
  obtain rfl : u = Value.ref f := r1
  refine PySem.W.callWith_F0 (ok.fn H _ I1.hok hf) (wpAny_call (codeAny_mono (ok.run X.A X.stack s1 H Q _ hr I1.env0 hf q) fun r s' hq => ?_))
  match r, hq with
  | .error e, hq => exact L2N.passAt tk σ pins H s1 e s' I1 hq
  | .ok (.ret u), hq => exact I1.after hq
end LendN
namespace Kk
open PySem L2 PyProof.Rows

end Kk
namespace HotP
open PySem PySem.Spec PyProof.Rows L2 HotX L2H
/-! ### a def called within an except suite whose promise speaks of the handled error -/
structure FnHP (P : Program) (w : World) (K : PySem.W.Frag) (mg : Str → Option Value) (base : Heap) (CX : CXT) (k : Nat) (f : Addr) (fd : FuncData) (ps : List Str) (sp : Addr × Obj → Sp) : Prop where
  len : ∀ p vs H Q E, sp p vs H Q E → vs.length = ps.length
  run : ∀ (A : Around) (outer : List Env) (s : Shared) (H : Hp) (args : Args) (us : List Value) (vs : List V) (Q : VK) (E : XK) (p : Addr × Obj), RoomH k A → Hot1 A p → PinOk outer H s p → Env0 P w K mg base A outer s H → BindsTo s fd args (ps.zip us) → Vals vs us → sp p vs H Q E →
    codeAny (model P w) A (.call (.ref f) args) (CR CX outer P w H s Q E) s
section
variable {CX : CXT} {P : Program} {w : World} {K : PySem.W.Frag} {mg : Str → Option Value} {base : Heap} {k : Nat} {f : Addr} {name qual : Str} {params : Arguments} {body : List Stmt} {scope : Scope} {dV kV doc pm cdv ct oc : Value} {an od : Option Addr} {osl : Array (Option Value)} {N ps : List Str} {sp : Addr × Obj → Sp}
theorem fnHP_of (lk : K.lookup f = some ⟨oc, od, .func (PySem.W.fnOf name qual params body scope dV kV doc pm an cdv ct), osl⟩) (hcd : PySem.W.codeIn K cdv qual = true) (S : FnScope N ps scope) (len : ∀ p vs H Q E, sp p vs H Q E → vs.length = ps.length)
    (hbody : ∀ (A : Around) (outer : List Env) (s : Shared) (H : Hp) (vs : List V) (Q : VK) (E : XK) (p : Addr × Obj), Hot1 A p → RoomH k (A.deeper (envOfC qual scope s.heap.objs.size f cdv)) → sp p vs H Q E →
      ∃ t, PSs (cxH CX P w K mg base N qual scope f cdv A outer s H E p) body t ∧ t { nx := fun _ H' => Q .non H', rt := Q } (L2.start N vs) H) :
    FnHP P w K mg base CX (k + 1) f (PySem.W.fnOf name qual params body scope dV kV doc pm an cdv ct) ps sp := by
  refine ⟨len, fun A outer s H args us vs Q E p hr hot hpin e0 hb r hsp => ?_⟩
  have KX : K.In s.heap := e0.mod.kin.keeps fun b o e => (e0.bs b o e).1
  have lim : s.heap.NoLimit := e0.mod.nolimit.keeps fun b o e => (e0.bs b o e).1
  refine codeAny_call_function hr.depth (KX _ _ lk) rfl S.co S.gen rfl (PySem.W.codeRec_of KX hcd) (hb _ _ _ _ (wpAny_newFunctionEnv_cells S.kind (fun ⟨n, v⟩ hy => ?_) fun env he s1 x => ?_))
  · exact (S.par n (List.of_mem_zip hy).1).imp id fun q => ⟨q, PySem.W.cellsFrom_some _ _ _ (.inl q)⟩
  · subst he
    obtain ⟨t, ht, hq⟩ := hbody A outer s H vs Q E p hot (hr.deeper _) hsp
    have I : Inv (cxH CX P w K mg base N qual scope f cdv A outer s H E p) [] (L2.start N vs) H s1 := inv_startH S hpin e0 (len _ _ _ _ _ hsp) r x
    refine ⟨lim.keeps x.toInCall.keep, codeAny_func (wpAny_mono (ht.run [] s1 _ H _ I hq) (fun fl s' hs => ?_) fun e s' hs => hs)⟩
    cases fl with
    | ret u =>
      obtain ⟨v, _, H', J, rv, q⟩ := hs
      exact ⟨v, H', J.os, J.bare, J.base, J.hok, rv, q⟩
    | next =>
      obtain ⟨_, H', J, q⟩ := hs
      exact ⟨V.non, H', J.os, J.bare, J.base, J.hok, rfl, q⟩
    | brk =>
      obtain ⟨_, _, _, q⟩ := hs
      exact False.elim q
    | cont =>
      obtain ⟨_, _, _, q⟩ := hs
      exact False.elim q
/-- the reading of a call of such a def within the suite, p the handled error -/
def tCallHP (p : Addr × Obj) (sp : Addr × Obj → Sp) (t : TA) : TE := fun σ H Q => t σ H fun vs H1 => sp p vs H1 Q C8.E0
theorem pe_callHP {X : Cx} {k : Nat} {f : Addr} {fd : FuncData} {ps : List Str} {sp : Addr × Obj → Sp} {x : Str} {q pos : Pos} {e : Expr} {es : List Expr} {t : TA} {p : Addr × Obj} (F : FnHP X.prog X.w X.K X.mg X.base C8.CX0 k f fd ps sp) (hr : RoomH k X.A) (hot : Hot1 X.A p) (hp : p ∈ X.pn) (hg : Gl X x) (hm : X.mg x = some (.ref f)) (hk : PySem.W.keepIn X.K (.ref f) = true) (hb : Binds X.K fd ps [])
    (ha : PA X (e :: es) t) (hdb : (x == ("__debug__" : Str)) = false := by decide) (he : starEach (e :: es) X.env = (false, eval e X.env) :: starEach es X.env := by rfl) (hpl : (backTo pos (starEach es X.env)).any (·.1) = false := by rfl) :
    PE X (.Call (.Name x q) (e :: es) [] pos) (tCallHP p sp t) := by
  refine ⟨fun pins s σ H Q I h => ?_⟩
  refine wpAny_Call_Name_kw (ld_glob I hg hm ?_ hdb)
  refine PySem.W.callWith_K (h₀ := X.base) I.ok.mod.kin hk (thn (ha.run pos pins s σ H _ I h) fun us s1 ⟨vs, H1, I1, r, q⟩ => ⟨I1.kIn, ?_⟩) he hpl
  have hl : us.length = ps.length := by
    rw [← r.length]
    exact F.len _ _ _ _ _ q
  have b := hb s1 us I1.kIn (by rw [List.append_nil]; exact hl)
  rw [List.append_nil] at b
  obtain ⟨g1, g2, g3, g4, g5⟩ := I1.pin p (List.mem_append_left _ hp)
  refine wpAny_call (codeAny_mono (F.run X.A X.stack s1 H1 ⟨us, []⟩ us vs Q C8.E0 p hr hot ⟨g1, g2, fun hm => (List.mem_cons.mp (I1.stkSub p.1 hm)).elim g3 g4, g5⟩ I1.env0 b r q) fun r s' hq => ?_)
  cases r with
  | error e => exact hq.elim
  | ok fl =>
    cases fl with
    | ret u => exact I1.after hq
    | next => exact False.elim hq
    | brk => exact False.elim hq
    | cont => exact False.elim hq
end
/-- the reading of e.n, e the handled error p -/
def RPin (K : PySem.W.Frag) (p : Addr × Obj) (n : Str) (x : V) (H1 : Hp) (Q : VK) : Prop := x = .ref p.1 ∧ ∃ (C d : Addr) (fs : List (Str × V)) (v : V), XfC K C ∧ PySem.W.findIn K (.ref C) n = some none ∧ p.2.cls = .ref C ∧ p.2.dict = some d ∧ (∃ vs, p.2.data = .fields vs) ∧ H1 d = some (.xd fs) ∧ fs.lookup n = some v ∧ Q v H1
def tPin (K : PySem.W.Frag) (p : Addr × Obj) (n : Str) (te : TE) : TE := fun σ H Q => te σ H fun x H1 => RPin K p n x H1 Q
theorem pe_pinf {X : Cx} {p : Addr × Obj} {e : Expr} {te : TE} {pos : Pos} {n : Str} (hp : p ∈ X.pn) (he : PE X e te) (hb : attributeBase e n X.env (eval e X.env) = eval e X.env := by rfl) :
    PE X (.Attribute e n pos) (tPin X.K p n te) := by
  refine ⟨fun pins s σ H Q I h => attr_of hb (thn (he.run pins s σ H _ I h) fun u s1 hh => ?_)⟩
  obtain ⟨x, H1, I1, rx, rfl, C, d, fs, v, T, hno, hc, hd, ⟨vs, hv⟩, h1, l, q⟩ := hh
  obtain rfl : u = Value.ref p.1 := rx
  have x1 : ObjOk X.prog X.w H1 s1.heap d (.xd fs) := I1.hok d _ h1
  obtain ⟨mA, hns, hr⟩ := x1
  obtain ⟨od, ho, hl⟩ := lookIn_ns hns
  have hm : RelO (some v) (mA n) := by
    have z := hr n
    rw [l] at z
    exact z
  obtain ⟨w, hw, rw_⟩ := RelO.some_of (v := v) (o := mA n) hm
  have J : PySem.W.InstAt s1.heap p.1 p.2 C (some od) := ⟨(I1.pin p (List.mem_append_left _ hp)).1, hc, by unfold PySem.W.notCls; rw [hv] <;> rfl, by rw [hd]; exact ho⟩
  exact HandSPX.exc_get I1.kIn J T.ga T.gg T.exC (PySem.W.findObj_own T.hdC hno rfl (by rw [hl, hw])) (handed_of rw_) ⟨v, H1, I1.tok _, rw_, q⟩
end HotP
namespace Kk
open PySem L2 PyProof.Rows

end Kk
namespace LendN
open PySem PySem.Spec PyProof.Rows L2 Lend LamX NdefX
/-! ### what is told across lent cells -/
theorem celO_lst {c : Addr} {o : Obj} {xs : List V} : CelO c o ≠ .lst xs := fun z => by
  have z' : HO.ext _ = HO.lst xs := z
  cases z'
section
variable {H H' H1 G : Hp} {cs : List (Addr × Obj)} {b : Addr} {u : HO}
theorem Ins.same (s : Same H H') (h : Ins H cs) : Ins H' cs := fun b o e => s _ _ (h b o e)
theorem unl_same (s : Same H H') : Same (unl H cs) (unl H' cs) := fun b u e => by
  cases z : cs.lookup b with
  | some o =>
    rw [unl_in z] at e
    cases e
  | none =>
    rw [unl_out z] at e ⊢
    exact s _ _ e
theorem lend_same (i : Ins H cs) (s : Same (unl H cs) H') : Same H (lend H' cs) := fun b u e => by
  cases z : cs.lookup b with
  | some o =>
    rw [lend_in z, ← i b o z]
    exact e
  | none =>
    rw [lend_out z]
    exact s _ _ (by rw [unl_out z]; exact e)
theorem off_at (f : Offs H' cs) (e : H' b = some u) : cs.lookup b = none := by
  cases z : cs.lookup b with
  | none => rfl
  | some o =>
    rw [f b o z] at e
    cases e
theorem lend_at (f : Offs H' cs) (e : H' b = some u) : lend H' cs b = some u := by
  rw [lend_out (off_at f e)]
  exact e
theorem lend_non (e : lend H' cs b = none) : H' b = none := by
  cases z : cs.lookup b with
  | some o =>
    rw [lend_in z] at e
    cases e
  | none =>
    rw [lend_out z] at e
    exact e
theorem lend_sub (f : Offs H' cs) : Same H' (lend H' cs) := fun b u e => lend_at f e
/-- behind the call: what was lent is let go -/
theorem unl_of (f : Offs H1 cs) (s : Same (lend H1 cs) G) : Same H1 (unl G cs) := fun b u e => by
  have z := off_at f e
  rw [unl_out z]
  exact s _ _ (by rw [lend_out z]; exact e)
theorem unl_at (i : Ins G cs) (n : ∀ o, CelO b o ≠ u) (e : G b = some u) : unl G cs b = some u := by
  rw [unl_out (i.offO e n)]
  exact e
theorem same_unl_lend (f : Offs H1 cs) : Same H1 (unl (lend H1 cs) cs) := unl_of f (fun _ _ e => e)
end
theorem pair_at {α β : Type} {F : α → β → Prop} : ∀ {l : List α} {m : List β}, Paired F l m → ∀ {i : Nat} {a : α}, l[i]? = some a → ∃ b, m[i]? = some b ∧ F a b
  | _, _, .nil, _, _, h => by cases h
  | _, _, .cons r _, 0, _, h => by
    cases h
    exact ⟨_, rfl, r⟩
  | _, _, .cons _ t, i + 1, _, h => pair_at t (i := i) h
/-! ### a lambda to be asked -/
def askSp (cs : List (Addr × Obj)) (σ0 : L2.St) (tb : XK → TE) : Hp → VK → XK → Prop := fun H Q E => tb (fun cls d H' => Offs H' cs → E cls d (lend H' cs)) σ0 (unl H cs) fun v H' => Offs H' cs → Q v (lend H' cs)
/-- the cell of y holds v -/
def Cap (X : Cx) (cs : List (Addr × Obj)) (y : Str) (v : V) : Prop := ∃ (c : Addr) (o : Obj) (u : Value), X.env.cells.lookup y = some c ∧ cs.lookup c = some o ∧ L2.RelV v u ∧ o.data = .cell (some u)
structure CellW (X : Cx) (σ : L2.St) (ys : List (Str × Nat)) (cs : List (Addr × Obj)) : Prop where
  inj : ∀ x y c, X.env.cells.lookup x = some c → X.env.cells.lookup y = some c → x = y
  own : ∀ b o, cs.lookup b = some o → ∃ y, X.env.cells.lookup y = some b ∧ X.fn y = true
  val : ∀ y ∈ ys, ∃ v, σ[y.2]? = some (some v) ∧ Cap X cs y.1 v
theorem CellW.cap {X : Cx} {σ : L2.St} {ys : List (Str × Nat)} {cs : List (Addr × Obj)} (C : CellW X σ ys cs) {y : Str} {i : Nat} {v : V} (m : (y, i) ∈ ys) (e : σ[i]? = some (some v)) : Cap X cs y v := by
  obtain ⟨v', e', h⟩ := C.val _ m
  have z : some (some v') = some (some v) := e'.symm.trans e
  cases z
  exact h
def CapOk (X : Cx) (σ : L2.St) (y : Str × Nat) : Prop := X.N[y.2]? = some y.1 ∧ (∃ v, σ[y.2]? = some (some v)) ∧ X.env.scope.names.lookup y.1 = some .cell ∧ X.fn y.1 = true
section
variable {X : Cx} {pins : List (Addr × Obj)} {σ : L2.St} {H : Hp} {s : Shared}
theorem cellw_of (I : Inv X pins σ H s) : ∀ ys : List (Str × Nat), (∀ y ∈ ys, CapOk X σ y) → ∃ cs, CellW X σ ys cs ∧ Outs H s.heap cs
  | [], _ => ⟨[], ⟨I.ok.inj, (fun _ _ e => by cases e), fun _ m => nomatch m⟩, fun _ _ e => by cases e⟩
  | (y, i) :: ys, h => by
    obtain ⟨cs, V1, O1⟩ := cellw_of I ys fun z m => h z (List.mem_cons_of_mem _ m)
    obtain ⟨hN, ⟨v, hv⟩, hk, hf⟩ := h (y, i) List.mem_cons_self
    obtain ⟨m, _, hl⟩ := I.loc
    obtain ⟨u, r, q⟩ := hl i y v hN hv (.inr (.inl hk))
    have hk' : X.env.kindOf y = some .cell := hk
    rcases q with ⟨k', _⟩ | ⟨_, c, hc, o, ho, hd⟩
    · rw [show X.env.scope.names.lookup y = some .local from k'] at hk
      cases hk
    · have n : H c = none := I.freeC y c hc
      have at_ : ∀ b, ((c, o) :: cs).lookup b = if b = c then some o else cs.lookup b := fun b => by
        by_cases e : b = c
        · subst e
          simp [List.lookup]
        · have e' : (b == c) = false := by simpa using e
          rw [if_neg e]
          simp [List.lookup, e']
      refine ⟨(c, o) :: cs, ⟨I.ok.inj, fun b o' e => ?_, fun z mz => ?_⟩, fun b o' e => ?_⟩
      · rw [at_] at e
        split at e
        · rename_i eb
          rw [eb]
          exact ⟨y, hc, hf⟩
        · exact V1.own b o' e
      · rcases List.mem_cons.mp mz with e | mz
        · rw [e]
          exact ⟨v, hv, c, o, u, hc, by rw [at_, if_pos rfl], r, hd⟩
        · obtain ⟨v2, h4, c2, o2, u2, h1, h2, h5, h6⟩ := V1.val z mz
          refine ⟨v2, h4, c2, o2, u2, h1, ?_, h5, h6⟩
          rw [at_]
          split
          · rename_i eb
            have z1 := (O1 c2 o2 h2).1
            rw [eb, ho] at z1
            rw [Option.some.inj z1]
          · exact h2
      · rw [at_] at e
        split at e
        · rename_i eb
          rw [← Option.some.inj e, eb]
          exact ⟨ho, n⟩
        · exact O1 b o' e
/-- the reading of a call to which the cells of ys are lent -/
def tCallW (X : Cx) (ys : List (Str × Nat)) (sp : Sp) (dvs : List V) (t : TA) : TE := fun σ H Q => t σ H fun vs H1 => (∀ y ∈ ys, CapOk X σ y) ∧
  ∀ cs, CellW X σ ys cs → Offs H1 cs → sp (vs ++ dvs) (lend H1 cs) (fun v H2 => Ins H2 cs ∧ Q v (unl H2 cs)) C8.E0
theorem pe_callW {k : Nat} {f : Addr} {fd : FuncData} {ps : List Str} {sp : Sp} {dvs : List V} {ds : List Value} {x : Str} {p pos : Pos} {e : Expr} {es : List Expr} {t : TA} (ys : List (Str × Nat)) (F : FnOk X.prog X.w X.K X.mg X.base C8.CX0 k f fd ps sp) (hr : Room k X.A) (hg : Gl X x) (hm : X.mg x = some (.ref f)) (hk : PySem.W.keepIn X.K (.ref f) = true) (hb : Binds X.K fd ps ds) (hd : Vals dvs ds)
    (ha : PA X (e :: es) t) (hdb : (x == ("__debug__" : Str)) = false := by decide) (he : starEach (e :: es) X.env = (false, eval e X.env) :: starEach es X.env := by rfl) (hpl : (backTo pos (starEach es X.env)).any (·.1) = false := by rfl) :
    PE X (.Call (.Name x p) (e :: es) [] pos) (tCallW X ys sp dvs t) := by
  refine ⟨fun pins s σ H Q I h => ?_⟩
  refine wpAny_Call_Name_kw (ld_glob I hg hm ?_ hdb)
  refine PySem.W.callWith_K (h₀ := X.base) I.ok.mod.kin hk (thn (ha.run pos pins s σ H _ I h) fun us s1 ⟨vs, H1, I1, r, hy, q⟩ => ⟨I1.kIn, ?_⟩) he hpl
  obtain ⟨cs, V1, O1⟩ := cellw_of I1 ys hy
  have q1 := q cs V1 fun b o z => (O1 b o z).2
  have big : ∀ b o, cs.lookup b = some o → X.s_0.heap.objs.size ≤ b ∧ b ≠ X.env.locals := fun b o z => by
    obtain ⟨y, hc, hf⟩ := V1.own b o z
    exact ⟨I1.ok.cab y b hf hc, I1.cne y b hc⟩
  have e1 := env0_lend I1.env0 O1 (fun b o z => by
    cases e : X.base.get? b with
    | none => rfl
    | some v => exact absurd (Nat.lt_of_lt_of_le (Heap.lt_size e) (Nat.le_trans I1.ok.bsz (big b o z).1)) (Nat.lt_irrefl _)) (fun b o z hb => by
    rcases List.mem_cons.mp (I1.stkSub b hb) with e | hb
    · exact (big b o z).2 e
    · obtain ⟨_, v, ho, _⟩ := I1.ok.funs.mem hb
      exact absurd (Nat.lt_of_lt_of_le (Heap.lt_size ho) (big b o z).1) (Nat.lt_irrefl _))
  have r2 : Vals (vs ++ dvs) (us ++ ds) := r.append hd
  have hl : (us ++ ds).length = ps.length := by
    rw [← r2.length]
    exact F.len _ _ _ _ q1
  refine wpAny_call (codeAny_mono (F.run X.A X.stack s1 (lend H1 cs) ⟨us, []⟩ (us ++ ds) (vs ++ dvs) _ _ hr e1 (hb s1 us I1.kIn hl) r2 q1) fun r s' hq => ?_)
  cases r with
  | error e => exact hq.elim
  | ok fl =>
    cases fl with
    | ret u => exact I1.after (ce_out hq O1)
    | next => exact False.elim hq
    | brk => exact False.elim hq
    | cont => exact False.elim hq
/-- what is raised is raised by no one -/
theorem passF : Passes (L2N.CX X.prog X.w) X (fun _ _ _ => False) := fun pins σ H s e s' I h => by
  obtain ⟨_, _, _, _, _, _, _, _, _, _, _, _, z⟩ := h
  exact z.elim
end
def RMin2 : List V → Hp → VK → Prop := fun xs H Q => ∃ i j, xs = [V.int i, V.int j] ∧ Q (.int (if j < i then j else i)) H
theorem min2 {i j : Int} {H : Hp} {Q : VK} (q : Q (.int (if j < i then j else i)) H) : RMin2 [.int i, .int j] H Q := ⟨i, j, rfl, q⟩
def freeB (sc scope : Scope) : Bool := scope.names.all fun y => !decide (y.2 = .free) || decide (sc.names.lookup y.1 = some .cell)
theorem free_ok {qual : Str} {sc scope : Scope} {L f : Addr} {cdv : Value} (h : freeB sc scope = true) : ∀ y ∈ scope.names, y.2 = .free → ∃ c, (envOfC qual sc L f cdv).cells.lookup y.1 = some c := fun y hy e => by
  have z := List.all_eq_true.mp h y hy
  simp only [e, decide_true, Bool.not_true, Bool.false_or, decide_eq_true_eq] at z
  exact Option.isSome_iff_exists.mp (PySem.W.cellsFrom_some _ _ _ (.inl z))
theorem passL {P : Program} {w : World} {K : PySem.W.Frag} {mg : Str → Option Value} {base : Heap} {N : List Str} {F : NF} {f : Addr} {A : Around} {outer : List Env} {s : Shared} {H : Hp} {E : XK} : Passes (L2N.CX P w) (ncx (L2N.CX P w) P w K mg base N F f A outer s H E) E :=
  L2N.passes_call (L2N.takes_of (E₁ := fun e' s'' => L2N.CX P w outer H s E e' s'') rfl rfl rfl rfl) (fun _ _ _ _ h => h)
/-! ### the lambda's closure and its promise -/
section
variable {P : Program} {w : World} {K : PySem.W.Frag} {mg : Str → Option Value} {base : Heap} {k : Nat} {f c' : Addr} {qual : Str} {params : Arguments} {body : Expr} {scope : Scope} {dV doc pm ct : Value} {cs : List (Addr × Obj)} {N ps fr : List Str} {vs : List V} {ws : List V} {fs : List (Addr × HO)} {X : Cx} {σ : L2.St} {ys : List (Str × Nat)}
theorem ask_lam {tb : XK → TE} (S : NScope N ps fr scope) (C : CellW X σ ys cs) (hc : Paired (Cap X cs) fr ws)
    (m1 : (f, FunO f (lamFd "<lambda>" qual params body scope (cloFrom X.env.cells scope.names []) dV doc pm c' ct)) ∈ fs) (m2 : (c', CodeO c' qual) ∈ fs) (m3 : ∀ b o, cs.lookup b = some o → (b, CelO b o) ∈ fs)
    (hbind : ∀ (s : Shared) (H : Hp), HOk P w H s.heap → (∀ p ∈ fs, H p.1 = some p.2) → ∃ us, BindsTo s (lamFd "<lambda>" qual params body scope (cloFrom X.env.cells scope.names []) dV doc pm c' ct) ⟨[], []⟩ (ps.zip us) ∧ Vals vs us) (hl : vs.length = ps.length)
    (hbody : ∀ (A : Around) (outer : List Env) (s : Shared) (H : Hp) (E : XK), Room k (A.deeper (envF ⟨"<lambda>", qual, params, [], scope, cloFrom X.env.cells scope.names [], c'⟩ f s.heap.objs.size)) →
      PE (ncx (L2N.CX P w) P w K mg base N ⟨"<lambda>", qual, params, [], scope, cloFrom X.env.cells scope.names [], c'⟩ f A outer s H E) body (tb E)) :
    AskOk P w K mg base (L2N.CX P w) (k + 1) f fs (askSp cs (startF N vs (ws.map some)) tb) := by
  have cm : ∀ {y c}, (cloFrom X.env.cells scope.names []).lookup y = some c → y ∈ fr ∧ X.env.cells.lookup y = some c := fun {y c} e => by
    rcases cloFrom_mem (PySem.mem_of_lookup e) with hm | ⟨h1, h2⟩
    · cases hm
    · have hy := S.free _ h1 rfl
      obtain ⟨i, hi⟩ := List.mem_iff_getElem?.mp hy
      obtain ⟨v, c1, o, u, e1, e2, _⟩ : ∃ v, Cap X cs y v := by
        obtain ⟨v, _, z⟩ := pair_at hc hi
        exact ⟨v, z⟩
      refine ⟨hy, ?_⟩
      have h2' : c = (X.env.cells.lookup y).getD 0 := h2
      rw [h2', e1]
      rfl
  have capOf : ∀ y, y ∈ fr → ∃ v, Cap X cs y v := fun y hy => by
    obtain ⟨i, hi⟩ := List.mem_iff_getElem?.mp hy
    obtain ⟨v, _, z⟩ := pair_at hc hi
    exact ⟨v, z⟩
  refine ask_of S m1 m2 m3 (by rw [List.length_map]; exact hc.length.symm) (fun x y c e1 e2 => C.inj x y c (cm e1).2 (cm e2).2) (fun y c e => ?_) (fun i y e => ?_) hbind hl fun A outer s H Q E hr hf q => ⟨tb _, hbody A outer s _ _ hr, q⟩
  · obtain ⟨hy, ec⟩ := cm e
    obtain ⟨v, c1, o, u, e1, e2, _, e4⟩ := capOf y hy
    rw [ec] at e1
    cases e1
    exact ⟨o, _, e2, e4⟩
  · have hy := List.mem_of_getElem? e
    have hk := S.frk y hy
    obtain ⟨c2, h2⟩ := mem_lookup (cloFrom_has (cells := X.env.cells) (acc := []) (PySem.mem_of_lookup hk))
    obtain ⟨v, hv, c1, o, u, e1, e2, e3, e4⟩ := pair_at hc e
    have h3 := (cm h2).2
    rw [e1] at h3
    cases h3
    refine ⟨_, o, h2, e2, fun v' z => ?_⟩
    rw [List.getElem?_map, hv] at z
    cases z
    exact ⟨u, e3, e4⟩
end
/-! ### what is tracked within the call -/
def lendFs (cs : List (Addr × Obj)) : List (Addr × HO) := cs.map fun p => (p.1, CelO p.1 ((cs.lookup p.1).getD p.2))
theorem look_mem {cs : List (Addr × Obj)} {b : Addr} {o : Obj} : (b, o) ∈ cs → ∃ o', cs.lookup b = some o' := by
  induction cs with
  | nil => intro h; cases h
  | cons p r ih =>
    intro h
    obtain ⟨c, v⟩ := p
    by_cases e : b = c
    · subst e
      exact ⟨v, by simp [List.lookup]⟩
    · have e' : (b == c) = false := by simpa using e
      rcases List.mem_cons.mp h with h | h
      · cases h
        exact absurd rfl e
      · obtain ⟨o', q⟩ := ih h
        exact ⟨o', by simp [List.lookup, e', q]⟩
theorem mem_look {cs : List (Addr × Obj)} {b : Addr} {o : Obj} : cs.lookup b = some o → (b, o) ∈ cs := by
  induction cs with
  | nil => intro h; cases h
  | cons p r ih =>
    intro h
    obtain ⟨c, v⟩ := p
    simp only [List.lookup] at h
    split at h
    · rename_i e
      cases h
      rw [eq_of_beq e]
      exact List.mem_cons_self
    · exact List.mem_cons_of_mem _ (ih h)
theorem lendFs_mem {cs : List (Addr × Obj)} {b : Addr} {o : Obj} (e : cs.lookup b = some o) : (b, CelO b o) ∈ lendFs cs := by
  refine List.mem_map.mpr ⟨(b, o), mem_look e, ?_⟩
  show (b, CelO b ((cs.lookup b).getD o)) = _
  rw [e]
  rfl
theorem lendFs_ok {H : Hp} {cs : List (Addr × Obj)} (i : Ins H cs) : ∀ p ∈ lendFs cs, H p.1 = some p.2 := fun p hp => by
  obtain ⟨⟨b, o⟩, hq, rfl⟩ := List.mem_map.mp hp
  obtain ⟨o', e⟩ := look_mem hq
  show H b = some (CelO b ((cs.lookup b).getD o))
  rw [e]
  exact i b o' e
section
variable {P : Program} {w : World} {K : PySem.W.Frag} {mg : Str → Option Value} {base : Heap} {k : Nat} {f c' : Addr} {qual : Str} {params : Arguments} {body : Expr} {scope : Scope} {dV doc pm ct : Value} {cs : List (Addr × Obj)} {N fr : List Str} {ws : List V} {X : Cx} {σ : L2.St} {ys : List (Str × Nat)} {H : Hp}
/-- a lambda of no parameter -/
theorem ask0 {tb : XK → TE} (S : NScope N [] fr scope) (C : CellW X σ ys cs) (off : Offs H cs) (hc : Paired (Cap X cs) fr ws) (hF : H f = some (FunO f (lamFd "<lambda>" qual params body scope (cloFrom X.env.cells scope.names []) dV doc pm c' ct))) (hC : H c' = some (CodeO c' qual))
    (hD : DefsAt H dV []) (hb : bindArgs (lamFd "<lambda>" qual params body scope (cloFrom X.env.cells scope.names []) .none doc pm c' ct) ⟨[], []⟩ = pure [])
    (hbody : ∀ (A : Around) (outer : List Env) (s : Shared) (H : Hp) (E : XK), Room k (A.deeper (envF ⟨"<lambda>", qual, params, [], scope, cloFrom X.env.cells scope.names [], c'⟩ f s.heap.objs.size)) →
      PE (ncx (L2N.CX P w) P w K mg base N ⟨"<lambda>", qual, params, [], scope, cloFrom X.env.cells scope.names [], c'⟩ f A outer s H E) body (tb E)) :
    ∃ fs, AskOk P w K mg base (L2N.CX P w) (k + 1) f fs (askSp cs (startF N [] (ws.map some)) tb) ∧ ∀ p ∈ fs, lend H cs p.1 = some p.2 := by
  obtain rfl : dV = .none := hD
  refine ⟨(f, FunO f (lamFd "<lambda>" qual params body scope (cloFrom X.env.cells scope.names []) .none doc pm c' ct)) :: (c', CodeO c' qual) :: lendFs cs, ask_lam S C hc (.head _) (.tail _ (.head _)) (fun b o e => .tail _ (.tail _ (lendFs_mem e))) (fun s H _ _ => ⟨[], .of_eq hb, .nil⟩) rfl hbody, ?_⟩
  intro p hp
  rcases List.mem_cons.mp hp with rfl | hp
  · exact lend_at off hF
  · rcases List.mem_cons.mp hp with rfl | hp
    · exact lend_at off hC
    · exact lendFs_ok lend_ins p hp
/-- a lambda of one parameter, which has its default -/
theorem ask1 {tb : XK → TE} {x : Str} {d : V} (S : NScope N [x] fr scope) (C : CellW X σ ys cs) (off : Offs H cs) (hc : Paired (Cap X cs) fr ws) (hF : H f = some (FunO f (lamFd "<lambda>" qual params body scope (cloFrom X.env.cells scope.names []) dV doc pm c' ct))) (hC : H c' = some (CodeO c' qual)) (hD : DefsAt H dV [d])
    (hb : ∃ k : Option (Array Value) → Sem (List (Str × Value)), bindArgs (lamFd "<lambda>" qual params body scope (cloFrom X.env.cells scope.names []) dV doc pm c' ct) ⟨[], []⟩ = seqItems? (lamFd "<lambda>" qual params body scope (cloFrom X.env.cells scope.names []) dV doc pm c' ct).defaults >>= k ∧ ∀ u, k (some #[u]) = pure [(x, u)])
    (hbody : ∀ (A : Around) (outer : List Env) (s : Shared) (H : Hp) (E : XK), Room k (A.deeper (envF ⟨"<lambda>", qual, params, [], scope, cloFrom X.env.cells scope.names [], c'⟩ f s.heap.objs.size)) →
      PE (ncx (L2N.CX P w) P w K mg base N ⟨"<lambda>", qual, params, [], scope, cloFrom X.env.cells scope.names [], c'⟩ f A outer s H E) body (tb E)) :
    ∃ fs, AskOk P w K mg base (L2N.CX P w) (k + 1) f fs (askSp cs (startF N [d] (ws.map some)) tb) ∧ ∀ p ∈ fs, lend H cs p.1 = some p.2 := by
  obtain ⟨t, rfl, ht⟩ := hD
  refine ⟨(f, FunO f (lamFd "<lambda>" qual params body scope (cloFrom X.env.cells scope.names []) (.ref t) doc pm c' ct)) :: (c', CodeO c' qual) :: (t, .tup [d]) :: lendFs cs, ask_lam S C hc (.head _) (.tail _ (.head _)) (fun b o e => .tail _ (.tail _ (.tail _ (lendFs_mem e)))) (fun s H hok hf => ?_) rfl hbody, ?_⟩
  · have z : ObjOk P w H s.heap t (.tup [d]) := hok t _ (hf _ (.tail _ (.tail _ (.head _))))
    obtain ⟨_, its, rv, o, ho, _, n, hd⟩ := z
    cases rv with
    | cons r1 r2 =>
      cases r2
      obtain ⟨kk, h1, h2⟩ := hb
      exact ⟨_, BindsTo.of_defaults (T := t) rfl ho hd h1 (h2 _), .cons r1 .nil⟩
  · intro p hp
    rcases List.mem_cons.mp hp with rfl | hp
    · exact lend_at off hF
    · rcases List.mem_cons.mp hp with rfl | hp
      · exact lend_at off hC
      · rcases List.mem_cons.mp hp with rfl | hp
        · exact lend_at off ht
        · exact lendFs_ok lend_ins p hp
end
end LendN
namespace Kk
open PySem L2 PyProof.Rows

end Kk
namespace IfX
open PySem PySem.Spec PyProof.Rows L2
/-! ### a if c else b as a test -/
def tIfT (t u v : TT) : TT := fun σ H Q => t σ H fun c H1 => if c = true then u σ H1 Q else v σ H1 Q
end IfX
namespace Kk
open PySem L2 PyProof.Rows

end Kk
namespace StkX
open PySem PySem.Spec PyProof.Rows L2 StX
/-! ### a def with *rest and one keyword-only parameter; calls of it that name the keyword -/
/-- the promise of a call f(us.., kn = v) -/
def FnRW (P : Program) (w : World) (K : PySem.W.Frag) (mg : Str → Option Value) (base : Heap) (CX : CXT) (k : Nat) (f : Addr) (kn : Str) (sp : List V → V → Hp → VK → XK → Prop) : Prop :=
  ∀ (A : Around) (outer : List Env) (s : Shared) (H : Hp) (us : List Value) (vs : List V) (v : Value) (z : V) (Q : VK) (E : XK), Room k A → Env0 P w K mg base A outer s H → Vals vs us → RelV z v → sp vs z H Q E →
    codeAny (model P w) A (.call (.ref f) ⟨us, [(kn, v)]⟩) (CR CX outer P w H s Q E) s
/-- what the body is promised: the parameters, the keyword's value, the rest as a new tuple -/
def Rest (n : Nat) (sp : Sp) (vs : List V) (z : V) (H : Hp) (Q : VK) (E : XK) : Prop := ∃ ws rest, vs = ws ++ rest ∧ ws.length = n ∧ rest.length ≤ sizeLine ∧ ∀ p, H p = none → sp (ws ++ [z, .ref p]) (upd H p (.tup rest)) Q E
section
variable {CX : CXT} {P : Program} {w : World} {K : PySem.W.Frag} {mg : Str → Option Value} {base : Heap} {k : Nat} {f : Addr} {name qual : Str} {params : Arguments} {body : List Stmt} {scope : Scope} {dV kV doc pm cdv ct oc : Value} {an od : Option Addr}
  {osl : Array (Option Value)} {N ps : List Str} {sp : Sp} {kn pv : Str}
theorem bnd_rest {A : Around} {outer : List Env} {s : Shared} {H : Hp} {E : XK} {us1 us2 : List Value} {ws rest : List V} {z : V} {v : Value} {B : Sem (List (Str × Value))} (hCX : CXUp CX) (e0 : Env0 P w K mg base A outer s H) (r1 : Vals ws us1) (r2 : Vals rest us2) (rz : RelV z v) (l1 : ws.length = ps.length) (l2 : rest.length ≤ sizeLine)
    (hB : B = (newTuple us2 >>= fun t => pure (ps.zip us1 ++ [(kn, v), (pv, t)]))) (A' : Around) (Ex : Value → Shared → Prop) (Q : List (Str × Value) → Shared → Prop)
    (h : ∀ (s2 : Shared) (H2 : Hp) (xs : List V) (us : List Value), Env0 P w K mg base A outer s2 H2 → Un (frs outer) [] H H2 s.heap s2.heap → s2.os = s.os → (∀ e s', CX outer H2 s2 E e s' → CX outer H s E e s') → Vals xs us → xs.length = (ps ++ [kn, pv]).length → (∃ p, H p = none ∧ xs = ws ++ [z, .ref p] ∧ H2 = upd H p (.tup rest)) → Q ((ps ++ [kn, pv]).zip us) s2) :
    wpAny (model P w) A' B Q Ex s := by
  have fresh : H s.heap.objs.size = none := e0.hok.fresh (Nat.le_refl _)
  have n1 : us1.length = ps.length := r1.length.symm.trans l1
  have n2 : us2.length ≤ sizeLine := Nat.le_trans (Nat.le_of_eq r2.length.symm) l2
  rw [hB]
  refine wpAny_bind (wpAny_newTuple (wpAny_pure ?_) n2)
  have ok : ObjOk P w (upd H s.heap.objs.size (.tup rest)) (s.heap.push ({ cls := .type "tuple", data := .seq us2.toArray } : Obj)) s.heap.objs.size (.tup rest) :=
    ⟨l2, us2, r2, ⟨_, Heap.get?_push_size _ rfl, rfl, _, rfl⟩⟩
  have U := un_laid (fs := frs outer) (s := s) (o := ({ cls := .type "tuple", data := .seq us2.toArray } : Obj)) (u := .tup rest) fresh
  have g := h _ _ (ws ++ [z, .ref s.heap.objs.size]) (us1 ++ [v, Value.ref s.heap.objs.size]) (env0_laid e0 ok) U rfl (fun e s' => hCX outer s H _ _ E e s' U (fun b o q => Heap.get?_push_of_some _ q) rfl)
    (r1.append (.cons rz (.cons rfl .nil))) (by rw [List.length_append, List.length_append, l1]; rfl) ⟨_, fresh, rfl, rfl⟩
  rw [List.zip_append n1.symm] at g
  exact g
/-- def f(a, .., *rest, kn = ..), the keyword written -/
theorem fn_restW (lk : K.lookup f = some ⟨oc, od, .func (PySem.W.fnOf name qual params body scope dV kV doc pm an cdv ct), osl⟩) (hcd : PySem.W.codeIn K cdv qual = true) (S : FnScope N (ps ++ [kn, pv]) scope) (hCX : CXUp CX)
    (hb : ∀ (us rest : List Value) (v : Value), us.length = ps.length → bindArgs (PySem.W.fnOf name qual params body scope dV kV doc pm an cdv ct) ⟨us ++ rest, [(kn, v)]⟩ = (newTuple rest >>= fun t => pure (ps.zip us ++ [(kn, v), (pv, t)])))
    (hbody : ∀ (A : Around) (outer : List Env) (s : Shared) (H : Hp) (vs : List V) (Q : VK) (E : XK), Room k (A.deeper (envOfC qual scope s.heap.objs.size f cdv)) → sp vs H Q E →
      ∃ t, PSs (cxOf CX P w K mg base N qual scope f cdv A outer s H E) body t ∧ t { nx := fun _ H' => Q .non H', rt := Q } (start N vs) H) :
    FnRW P w K mg base CX (k + 1) f kn (Rest ps.length sp) := by
  intro A outer s H us vs v z Q E hr e0 r rz ⟨ws, rest, ev, l1, l2, hq⟩
  subst ev
  obtain ⟨u1, u2, eu, r1, r2⟩ := vals_split r
  subst eu
  refine run_bnd lk hcd S hr e0 (G := fun xs H2 => ∃ p, H p = none ∧ xs = ws ++ [z, .ref p] ∧ H2 = upd H p (.tup rest)) (fun A' Ex Q' h => ?_) fun s2 H2 xs g hr' => ?_
  · exact bnd_rest hCX e0 r1 r2 rz l1 l2 (hb u1 u2 v (r1.length.symm.trans l1)) A' Ex Q' h
  · obtain ⟨p, hp, ex, eH⟩ := g
    subst ex eH
    exact hbody A outer s2 _ _ Q E hr' (hq p hp)
/-- .. the keyword left out: its default is looked up -/
theorem fn_restD {D : Addr} {dv : Value} {z : V} (lk : K.lookup f = some ⟨oc, od, .func (PySem.W.fnOf name qual params body scope dV kV doc pm an cdv ct), osl⟩) (hcd : PySem.W.codeIn K cdv qual = true) (S : FnScope N (ps ++ [kn, pv]) scope) (hCX : CXUp CX) (hD : PySem.W.nsIn K D kn = some (some dv)) (rz : RelV z dv)
    (hb : ∀ us rest : List Value, us.length = ps.length → ∃ (β γ : Type) (k1 : Option Value → Sem β) (k2 : β → Sem γ) (k3 : γ → Sem (List (Str × Value))) (a : β), bindArgs (PySem.W.fnOf name qual params body scope dV kV doc pm an cdv ct) ⟨us ++ rest, []⟩ = ((nsGet D kn >>= k1) >>= k2) >>= k3 ∧ k1 (some dv) = pure a ∧
      (k2 a >>= k3) = (newTuple rest >>= fun t => pure (ps.zip us ++ [(kn, dv), (pv, t)])))
    (hbody : ∀ (A : Around) (outer : List Env) (s : Shared) (H : Hp) (vs : List V) (Q : VK) (E : XK), Room k (A.deeper (envOfC qual scope s.heap.objs.size f cdv)) → sp vs H Q E →
      ∃ t, PSs (cxOf CX P w K mg base N qual scope f cdv A outer s H E) body t ∧ t { nx := fun _ H' => Q .non H', rt := Q } (start N vs) H) :
    FnR P w K mg base CX (k + 1) f (fun vs => Rest ps.length sp vs z) := by
  intro A outer s H us vs Q E hr e0 r ⟨ws, rest, ev, l1, l2, hq⟩
  subst ev
  obtain ⟨u1, u2, eu, r1, r2⟩ := vals_split r
  subst eu
  refine run_bnd lk hcd S hr e0 (G := fun xs H2 => ∃ p, H p = none ∧ xs = ws ++ [z, .ref p] ∧ H2 = upd H p (.tup rest)) (fun A' Ex Q' h => ?_) fun s2 H2 xs g hr' => ?_
  · obtain ⟨β, γ, k1, k2, k3, a, e1, e2, e3⟩ := hb u1 u2 (r1.length.symm.trans l1)
    have KX : K.In s.heap := e0.mod.kin.keeps fun b o e => (e0.bs b o e).1
    rw [e1, bind_assoc]
    refine wpAny_bind (((PySem.W.looks_nsIn KX hD).andThen (PySem.W.Looks.of_pure e2)).here ?_)
    exact bnd_rest hCX e0 r1 r2 rz l1 l2 e3 A' Ex Q' h
  · obtain ⟨p, hp, ex, eH⟩ := g
    subst ex eH
    exact hbody A outer s2 _ _ Q E hr' (hq p hp)
end
/-! ### C(e, .., kn = ek) -/
def tMakeRW (C : Addr) (sp : List V → V → Hp → VK → XK → Prop) (E : XK) (t tk : TA) : TE := fun σ H Q => t σ H fun vs H1 => tk σ H1 fun zs H2 => ∃ z, zs = [z] ∧ ∀ x dx, H2 x = none → H2 dx = none → dx ≠ x →
  sp (.ref x :: vs) z (upd (upd H2 dx (.own x)) x (.ins C dx [])) (fun v H3 => v = .non ∧ Q (.ref x) H3) E
section
variable {X : Cx} {CX : CXT} {k : Nat} {f C : Addr} {sp : List V → V → Hp → VK → XK → Prop} {E : XK} {x kn : Str} {p pos : Pos} {e : Expr} {es : List Expr} {kws : List Keyword} {t tk : TA}
theorem run_makeRW {pins : List (Addr × Obj)} {σ : L2.St} {H : Hp} {s : Shared} {Q : VK} {us : List Value} {v : Value} {vs : List V} {z : V} (M : Mk X.K C f) (F : FnRW X.prog X.w X.K X.mg X.base CX k f kn sp) (hr : Room (k + 1) X.A) (hx : Passes CX X E)
    (I : Inv X pins σ H s) (r : Vals vs us) (rz : RelV z v)
    (h : ∀ a dx, H a = none → H dx = none → dx ≠ a → sp (.ref a :: vs) z (upd (upd H dx (.own a)) a (.ins C dx [])) (fun y H2 => y = .non ∧ Q (.ref a) H2) E) :
    wpAny (model X.prog X.w) X.A (call (.ref C) us [(kn, v)]) (EP X pins σ Q) X.xe s := by
  have q0 := h (s.heap.objs.size + 1) s.heap.objs.size (I.hok.fresh (Nat.le_succ _)) (I.hok.fresh (Nat.le_refl _)) (Nat.ne_of_lt (Nat.lt_succ_self _))
  have J := Inv.made (C := C) I
  have ra : Vals (V.ref (s.heap.objs.size + 1) :: vs) (Value.ref (s.heap.objs.size + 1) :: us) := .cons rfl r
  refine wpAny_call (make_map (f := f) I.kIn M.makes M.init (beq_iff_eq.mp M.fn) (codeAny_mono (F _ X.stack _ _ (Value.ref (s.heap.objs.size + 1) :: us) _ v z _ E (hr.make C us [(kn, v)]) (J.env0.make C us [(kn, v)]) ra rz q0) fun o s' hq => ?_))
  cases o with
  | error er => exact hx pins σ _ _ er s' J hq
  | ok fl =>
    match fl, hq with
    | .ret u, hq =>
      obtain ⟨y, H', J', ry, ey, q⟩ := J.after hq
      subst ey
      exact ⟨ry, ⟨V.ref (s.heap.objs.size + 1), H', J', rfl, q⟩⟩
/-- the call's node: a star among the arguments, and keywords -/
theorem starkw_node {M : Model} {A : Around} {E' : Value → Shared → Prop} {s : Shared} {g : Value} {first : List Value} {Q : Value → Shared → Prop} {K : PySem.W.Frag} {args : List (Bool × Sem Value)} {ks : List (Option Str × Sem Value)} (hst : (args.any (·.1) || ks.any (·.1.isNone)) = true) (hk : PySem.W.keepIn K g = true)
    (h : wpAny M A (evalArgs g true args ks) (fun a s1 => K.In s1.heap ∧ wpAny M A (call g (first ++ a.pos) a.kw) Q E' s1) E' s) : wpAny M A (callWith pos g first args ks) Q E' s := by
  unfold callWith
  refine wpAny_bind (wpAny_holding (wpAny_mono h (fun a s1 ⟨kin, hc⟩ => wpAny_bind (wpAny_standAt ?_)) fun _ _ z => z))
  obtain ⟨kp, hkp, L⟩ := PySem.W.keeps_K (M := M) hk s1.heap kin
  simp only [hst]
  refine wpAny_bind (L.here ?_)
  have done : ∀ {u : Sem Value}, wpAny M A u Q E' s1 → wpAny M A (u >>= fun r => holding [r] point >>= fun _ => pure r) Q E' s1 := fun hu =>
    wpAny_bind (wpAny_mono hu (fun r s2 hr2 => wpAny_bind (wpAny_holding (wpAny_point (wpAny_pure hr2)))) fun _ _ z => z)
  have mark (m : Value) : wpAny M A (callMarked m g (first ++ a.pos) a.kw) Q E' s1 := by
    unfold callMarked
    exact Calls.wpAny_keep hc
  rcases hkp with rfl | rfl | rfl <;> dsimp only
  · exact done (mark _)
  · exact done (wpAny_operating hc)
  · first
      | exact done (mark _)
      | exact done (wpAny_operating hc)
theorem pe_makeRW (M : Mk X.K C f) (F : FnRW X.prog X.w X.K X.mg X.base CX k f kn sp) (hr : Room (k + 1) X.A) (hg : Gl X x) (hm : X.mg x = some (.ref C)) (hx : Passes CX X E) (ha : PA X (e :: es) t) (hkw : PK X kws tk)
    (hall : (backToKw pos (keywordEach kws X.env)).all (·.1.isSome) = true := by rfl) (hks : (backToKw pos (keywordEach kws X.env)).filterMap (·.1) = [kn] := by rfl) (hdb : (x == ("__debug__" : Str)) = false := by decide)
    (he : starEach (e :: es) X.env = (false, eval e X.env) :: starEach es X.env := by rfl) (hpl : ((backTo pos (starEach (e :: es) X.env)).any (·.1) || (backToKw pos (keywordEach kws X.env)).any (·.1.isNone)) = false := by rfl) :
    PE X (.Call (.Name x p) (e :: es) kws pos) (tMakeRW C sp E t tk) := by
  refine ⟨fun pins s σ H Q I h => ?_⟩
  refine wpAny_Call_Name_kw (ld_glob I hg hm ?_ hdb)
  refine PySem.W.callWith_KW (h₀ := X.base) I.ok.mod.kin M.kp hall (thn (ha.run pos pins s σ H _ I h) fun us s1 ⟨vs, H1, I1, r, q⟩ => ?_) hpl he
  refine thn (hkw.run pos pins s1 σ H1 _ I1 q) fun ws s2 ⟨zs, H2, I2, rz, z, ez, q2⟩ => ⟨I2.kIn, ?_⟩
  subst ez
  rw [hks]
  cases rz with
  | cons rz rn =>
    cases rn
    exact run_makeRW M F hr hx I2 r rz q2
/-- C(e, .., *y, .., kn = ek) -/
theorem pe_makeRWS (M : Mk X.K C f) (F : FnRW X.prog X.w X.K X.mg X.base CX k f kn sp) (hr : Room (k + 1) X.A) (hg : Gl X x) (hm : X.mg x = some (.ref C)) (hx : Passes CX X E) (ha : PA X (e :: es) t) (hkw : PK X kws tk)
    (hall : (backToKw pos (keywordEach kws X.env)).all (·.1.isSome) = true := by rfl) (hks : (backToKw pos (keywordEach kws X.env)).filterMap (·.1) = [kn] := by rfl) (hdb : (x == ("__debug__" : Str)) = false := by decide)
    (he : starEach (e :: es) X.env = (false, eval e X.env) :: starEach es X.env := by rfl) (hst : ((backTo pos (starEach (e :: es) X.env)).any (·.1) || (backToKw pos (keywordEach kws X.env)).any (·.1.isNone)) = true := by rfl) :
    PE X (.Call (.Name x p) (e :: es) kws pos) (tMakeRW C sp E t tk) := by
  refine ⟨fun pins s σ H Q I h => ?_⟩
  refine wpAny_Call_Name_kw (ld_glob I hg hm ?_ hdb)
  refine starkw_node hst M.kp (PyProof.Rows.evalArgs_kw2 hall (thn (ha.run pos pins s σ H _ I h) fun us s1 ⟨vs, H1, I1, r, q⟩ => ?_) he)
  refine thn (hkw.run pos pins s1 σ H1 _ I1 q) fun ws s2 ⟨zs, H2, I2, rz, z, ez, q2⟩ => ⟨I2.kIn, ?_⟩
  subst ez
  rw [hks]
  cases rz with
  | cons rz rn =>
    cases rn
    exact run_makeRW M F hr hx I2 r rz q2
end
end StkX
namespace Kk
open PySem L2 PyProof.Rows

end Kk
namespace DicX
open PySem PySem.Spec PyProof.Rows L2
theorem units1 {k : Nat} {A : Around} (r : Room k A) : A.units + 1 < cLine := by
  have := r.un
  omega
section
variable {X : Cx} {tg : Expr}
/-- what is walked is a list or a tuple -/
def iSeq (K : PySem.W.Frag) (tl : TE) : TI := fun σ H R => tl σ H fun x H1 => ∃ a, x = .ref a ∧ (((∃ xs, SqL K H1 a xs) ∧ R (Itl K a) H1) ∨ ((∃ xs, SqT K H1 a xs) ∧ R (Itt K a) H1))
theorem pi_seq {l : Expr} {tl : TE} (hl : PE X l tl) : PI X tg l (iSeq X.K tl) := by
  refine ⟨fun pins s σ H R I h => ?_⟩
  refine thn (hl.run pins s σ H _ I h) fun v s1 ⟨x, H1, I1, r1, q1⟩ => ?_
  obtain ⟨a, e, q1⟩ := q1
  subst e
  cases r1
  rcases q1 with ⟨⟨xs, hq⟩, q⟩ | ⟨⟨xs, hq⟩, q⟩
  · obtain ⟨its, rv, p, hz⟩ := I1.list hq
    refine wpAny_pyIter_list p.isList ?_
    refine ⟨s1.heap.objs.size, [s1.heap.objs.size], _, _, H1, rfl, I1.kept (t' := s1.toks) fun b o e => Heap.get?_push_of_some _ e, turn_list a _, ⟨_, Heap.get?_push_size _ rfl, rfl, rfl⟩, fun b hb => ?_, q⟩
    have e : b = s1.heap.objs.size := by simpa using hb
    subst e
    exact I1.fpOk (Nat.le_refl _) (I1.hok.fresh (Nat.le_refl _))
  · obtain ⟨its, rv, p, hz⟩ := I1.tuple hq
    refine wpAny_pyIter_tuple (show s1.heap.IsTuple a its.toArray from p) ?_
    refine ⟨s1.heap.objs.size, [s1.heap.objs.size], _, _, H1, rfl, I1.kept (t' := s1.toks) fun b o e => Heap.get?_push_of_some _ e, turn_tuple a _, ⟨_, Heap.get?_push_size _ rfl, rfl, rfl⟩, fun b hb => ?_, q⟩
    have e : b = s1.heap.objs.size := by simpa using hb
    subst e
    exact I1.fpOk (Nat.le_refl _) (I1.hok.fresh (Nat.le_refl _))
end
theorem pe_fldK {X : Cx} {K : PySem.W.Frag} {e : Expr} {f : Str} {pos : Pos} {ta : TE} (hK : X.K = K) (he : PE X e ta) (hb : attributeBase e f X.env (eval e X.env) = eval e X.env) : PE X (.Attribute e f pos) (tFld K ta f) := hK ▸ pe_fld he hb
section
variable {X : Cx}
theorem sw_dc {kx vx : Expr} {gs : List Comprehension} {scope : Scope} {pos py : Pos} {y : Str} {l : Nat} {env : Env} (hk : env.scope.kind = .function) (hy : env.scope.names.lookup y = some .local) (hl : (py.line == pos.line) = true)
    (ha : (scope.names.any fun (n, k) => n == y && (k == .local || k == .cell)) = false) : swapsWith (.DictComp kx vx gs scope pos) (some (.Name y py)) l env = pure true := by
  have ky : env.kindOf y = some .local := hy
  have hb : env.blockKind = .function := by
    unfold Env.blockKind
    rw [hk]
    rfl
  unfold swapsWith
  simp only [hb, ky, ha, Expr.pos, hl]
  rfl
/-- name = {k: v for ..} on one line, the name a local -/
theorem ps_setDc {i : Nat} {y : Str} {py : Pos} {kx vx tg iter : Expr} {ifs : List Expr} {scope : Scope} {own : List (Str × Nat)} {pos spos : Pos} {wi : TI} {g : TG} {tt : TT} {tk tv : TE} (hc : X.calm = true) (hN : X.N.Nodup) (hy : X.N[i]? = some y) (hyl : X.env.scope.names.lookup y = some .local)
    (hsw : swapsWith (.DictComp kx vx [⟨tg, iter, ifs, 0⟩] scope pos) (some (.Name y py)) spos.line X.env = pure true) (hi : PI X tg iter wi) (ok : BlkOk X.N X.env.scope scope own)
    (hg : ∀ (s : Shared) (H : Hp) (C : Addr) (cl : List (Str × Addr)) (fp : List Addr), PG (X.blk s H scope (compEnvC scope cl C X.env) fp) tg g) (ht : ∀ (s : Shared) (H : Hp) (C : Addr) (cl : List (Str × Addr)) (fp : List Addr), PTs (X.blk s H scope (compEnvC scope cl C X.env) fp) ifs tt)
    (hk : ∀ (s : Shared) (H : Hp) (C : Addr) (cl : List (Str × Addr)) (fp : List Addr), PE (X.blk s H scope (compEnvC scope cl C X.env) fp) kx tk)
    (he : ∀ (s : Shared) (H : Hp) (C : Addr) (cl : List (Str × Addr)) (fp : List Addr), PE (X.blk s H scope (compEnvC scope cl C X.env) fp) vx tv) (hs : ∀ x, foldedSetIterable iter X.env x = pure x := by intro _; rfl) :
    PS X (.Assign [.Name y py] (.DictComp kx vx [⟨tg, iter, ifs, 0⟩] scope pos) spos) (tAsg (tDc wi g tt tk tv (own.map (·.2))) (gName i)) := by
  constructor
  intro pins s σ H D I h
  rw [exec_Assign_Name_used _ _ _ _ hsw]
  refine wpAny_bind (wpAny_standAt (wpAny_bind ?_))
  show wpAny _ X.A (do let _ ← comprehension (.DictComp kx vx [⟨tg, iter, ifs, 0⟩] scope pos) scope X.env (firstIterPos [⟨tg, iter, ifs, 0⟩] pos) newDict false (eval iter X.env) (some (assign (.Name y py) X.env))) _ _ s
  have h : tDc wi g tt tk tv (own.map (·.2)) σ H (fun x H1 => gName i x σ H1 D.nx) := h
  refine wpAny_bind (thn (dc_core (Qf := fun _ s' => SP X pins D .next s') hc hN I hi ok hg ht hk he hs h ?_) fun _ s' hq => wpAny_pure (wpAny_pure hq))
  intro L C s' m H' I' q hn f
  show wpAny _ _ (assign (.Name y py) X.env (.ref L)) _ _ _
  refine wpAny_assign_Name (store_ok2 (v := V.ref L) I' hN hy (.inl hyl) rfl (fun s2 I2 ⟨a, sb, ha⟩ => ?_) (.inr hyl))
  obtain ⟨f0, f1, f2, f3, f4, f5⟩ := f
  have haC : C ≠ a := by
    rcases ha with z | z
    · rw [z]
      exact f1
    · exact fun e => f4 y a z e.symm
  exact ⟨m, hn.sameBut sb haC, fun h3 sb3 => ⟨_, H', I2.turned (t' := s2.toks) (fun b o hb e => (sb3.2 b hb).trans e) f0 f1 f3 f4 f5, q⟩⟩
end
end DicX
namespace Kk
open PySem L2 PyProof.Rows

/-! ### enumerate of a list or a tuple -/
set_option maxHeartbeats 4000000 in
theorem enum_new_any {v : Value} {ob : Obj} {St : Heap → Prop} (B : Begins v ob St) :
    Meets (Builtin.«enumerate.__new__» ⟨[.type "enumerate", v], []⟩) (fun _ R s => St s.heap ∧ R (.ok (.ret (.ref (s.heap.push ob).objs.size)))
      { s with heap := (s.heap.push ob).push { cls := .type "enumerate", data := .fields #[.none, .bool false, .ref s.heap.objs.size, rawInt 0, .none, .none] } }) :=
  .of_wp fun P w A R s hs => by
    obtain ⟨hp, gg, dd, tt, oo⟩ := s
    obtain ⟨k1, k2⟩ := hs
    have sube := sub_enumerate
    have it : ∀ {A' : Around} {E' : Value → Shared → Prop} {Q' : Value → Shared → Prop}, Q' (.ref hp.objs.size) ⟨hp.push ob, gg, dd, tt, oo⟩ → wpAny (model P w) A' (pyIter v) Q' E' ⟨hp, gg, dd, tt, oo⟩ := fun q => B.iter _ _ _ _ ⟨hp, gg, dd, tt, oo⟩ _ k1 q
    wp_walk using it
    refine wpAny_stack_any fun _ => wpAny_pure ?_
    split
    · rename_i c _ _ _ _ _
      cases (c == Value.type "enumerate")
      · (wp_walk using it); exact ⟨_, rfl, k2⟩
      · (wp_walk using it); exact ⟨_, rfl, k2⟩
    · (wp_walk using it); exact ⟨_, rfl, k2⟩
theorem call_enum_any {P : Program} {w : World} {A : Around} {E : Value → Shared → Prop} {s : Shared} {v : Value} {ob : Obj} {St : Heap → Prop} {Q : Value → Shared → Prop} (B : Begins v ob St) (hs : St s.heap)
    (k : ∀ h', IsEnum h' (s.heap.objs.size + 1) s.heap.objs.size 0 .none → h'.get? s.heap.objs.size = some ob → (∀ b o, s.heap.get? b = some o → h'.get? b = some o) → Q (.ref (s.heap.objs.size + 1)) { s with heap := h' }) :
    wpAny (model P w) A (call (.type "enumerate") [v]) Q E s := by
  have z : (s.heap.push ob).objs.size = s.heap.objs.size + 1 := Heap.size_push ..
  refine callType_new PySem.F.called_enumerate (by decide) (PySem.F.typeCall_enumerate_1 _) (PySem.F.newCall_enumerate_1 _) (fun q => PySem.F.args_object_init_2 q _) PySem.F.entry_enumerate_new (enum_new_any B) ⟨hs, ?_⟩
  have e : IsEnum ((s.heap.push ob).push { cls := .type "enumerate", data := .fields #[.none, .bool false, .ref s.heap.objs.size, rawInt 0, .none, .none] }) (s.heap.objs.size + 1) s.heap.objs.size 0 .none := by
    have q := Heap.get?_push_size (s.heap.push ob) (o := { cls := .type "enumerate", data := .fields #[.none, .bool false, .ref s.heap.objs.size, rawInt 0, .none, .none] }) rfl
    rw [z] at q
    exact q
  show _ ∧ _
  rw [z]
  exact ⟨⟨_, e, rfl⟩, k _ e (Heap.get?_push_of_some _ (Heap.get?_push_size _ B.free)) fun b o x => Heap.get?_push_of_some _ (Heap.get?_push_of_some _ x)⟩
theorem enum_endT {P : Program} {w : World} {A : Around} {E : Value → Shared → Prop} {s : Shared} {e it a : Addr} {i : Nat} {xs : Array Value} {old : Value} {Q : Option Value → Shared → Prop} (hh : A.handled = none)
    (he : IsEnum s.heap e it i old) (hit : s.heap.IsTupleIter it a i) (ht : s.heap.IsTuple a xs) (hx : xs[i]? = none) (k : ∀ h', Heap.ExtBut it s.heap h' → Q none { s with heap := h' }) : wpAny (model P w) A (pyNext (.ref e)) Q E s := by
  have ty : s.TypeIs (.ref e) "enumerate" := ⟨_, he, rfl⟩
  unfold pyNext
  refine wpAny_bind (wpAny_attempt (wpAny_callSpecial?_slot (name := Str.ofString "__next__") ty PySem.F.slot_enumerate_next
    (wpAny_call_entry PySem.F.slot_enumerate_next ty PySem.F.entry_enumerate_next ?_ (PySem.F.args_enumerate_next_1 _))))
  show wpAny _ _ (PySem.field (.ref e) 2 >>= _) _ _ _
  refine wpAny_bind (wpAny_field he rfl (x := .ref it) rfl (wpAny_bind (wpAny_nextOf_tuple_end hh hit ht hx fun h' x he' hx' => ?_)))
  obtain ⟨o, ho, hc⟩ := hx'
  exact wpAny_bind (wpAny_isInstance (T := "StopIteration") (b := true) ⟨o, ho, hc⟩ isSubtype_stop (wpAny_pure (k _ he')))
/-- the tuple at a, each item in a new pair -/
def IteT (K : PySem.W.Frag) (a : Addr) : It :=
  ⟨fun i H => ∃ (xs : List V) (x : V), SqT K H a xs ∧ xs[i]? = some x,
    fun i H v H' => ∃ T x, v = .ref T ∧ H T = none ∧ H' = upd H T (.tup [.int (i : Nat), x]) ∧ ∀ xs, SqT K H a xs → xs[i]? = some x,
    fun i H => ∃ xs : List V, SqT K H a xs ∧ xs.length ≤ i⟩
theorem turn_enumT {P : Program} {w : World} {K : PySem.W.Frag} {elts : List Expr} {kk : Nat} {tpos : Pos} (a e it : Addr) :
    Turn P w K (.Tuple elts kk tpos) (IteT K a) [e, it] e (fun i h => (∃ old, IsEnum h e it ((i : Nat) : Int) old) ∧ h.IsTupleIter it a i ∧ e ≠ it ∧ a ≠ it ∧ a ≠ e) where
  mem := by simp
  obj := fun i h st b hb => by
    obtain ⟨⟨old, he⟩, ⟨o, ho, hc, hd⟩, _⟩ := st
    rcases (show b = e ∨ b = it by simpa using hb) with rfl | rfl
    · exact ⟨_, he, fun v q => nomatch q⟩
    · exact ⟨o, ho, fun v q => by rw [hd] at q; cases q⟩
  keep := fun i h h' st k => let ⟨⟨old, he⟩, hi, n⟩ := st; ⟨⟨old, k e (by simp) _ he⟩, hi.at fun o q => k it (by simp) o q, n⟩
  item := by
    intro X hP hw hK hc i pins s σ H E I hf st hg
    subst hP hw hK
    obtain ⟨⟨old, he⟩, hit, hne, hai, hae⟩ := st
    obtain ⟨xs, x, hq, hx⟩ := hg
    obtain ⟨its, rv, p, hz⟩ := I.tuple hq
    obtain ⟨u, hu, ru⟩ := rv.get hx
    have le : e < s.heap.objs.size := Heap.lt_size he
    have li : it < s.heap.objs.size := let ⟨_, q, _⟩ := hit; Heap.lt_size q
    have hlt : i < its.toArray.size := by
      have := (List.getElem?_eq_some_iff.mp hu).1
      simpa using this
    refine wpAny_pyNext_enum_itemD (Draws.tuple (A := X.A.in1) (show X.A.in1.handled = none from I.ok.hd hc) it a hai its.toArray) he ⟨hit, p⟩ hlt hne (by simp [hne, Ne.symm hae]) fun x' h' tk hP ho st' hT hsz hk => ?_
    obtain rfl : x' = u := by
      have q : its.toArray[i]? = some u := by simpa using hu
      rw [q] at hP
      exact (Option.some.inj hP).symm
    refine ⟨_, rfl, wpAny_letOwnedTupleGo_enum (s := { s with heap := h', toks := tk + 1 }) ho fun h'' he' sb => ?_⟩
    have hT2 : h''.get? s.heap.objs.size = some { cls := .type "tuple", data := .seq #[.int i tk, x'] } := (sb.2 _ (Nat.ne_of_gt le)).trans hT
    have new : ObjOk X.prog X.w (upd H s.heap.objs.size (.tup [.int (i : Nat), x])) h'' s.heap.objs.size (.tup [.int (i : Nat), x]) :=
      ⟨(by show 2 ≤ sizeLine; decide), [.int i tk, x'], .cons ⟨_, rfl⟩ (.cons ru .nil), ⟨_, hT2, rfl, _, rfl⟩⟩
    have I1 : Inv X pins σ (upd H s.heap.objs.size (.tup [.int (i : Nat), x])) { s with heap := h'', toks := tk + 1 } :=
      I.turnedNew (t' := tk + 1) (ch := [e, it]) (fun b ob hb q => (sb.2 b (fun z => hb (by rw [z]; simp))).trans (hk b ob (fun z => hb (by rw [z]; simp)) (fun z => hb (by rw [z]; simp)) q)) hf (Nat.le_refl _) new
    refine ⟨.ref s.heap.objs.size, _, I1, rfl, ⟨_, x, rfl, I.hok.fresh (Nat.le_refl _), rfl, fun ys hy => by rw [I.tuple_inj hy hq]; exact hx⟩, ⟨⟨x', ?_⟩, st'.1.at fun o q => (sb.2 it (Ne.symm hne)).trans q, hne, hai, hae⟩, fun b hb => ?_⟩
    · rw [show ((i + 1 : Nat) : Int) = (i : Int) + 1 by omega]
      exact he'
    · have hb' : b < s.heap.objs.size := by
        rcases (show b = e ∨ b = it by simpa using hb) with z | z
        · rw [z]; exact le
        · rw [z]; exact li
      rw [upd_ne (Nat.ne_of_lt hb')]
      exact (hf b hb).1
  done := by
    intro X hP hw hK hc i pins s σ H E I hf st hg
    subst hP hw hK
    obtain ⟨⟨old, he⟩, hit, hne, hai, hae⟩ := st
    obtain ⟨xs, hq, hx⟩ := hg
    obtain ⟨its, rv, p, hz⟩ := I.tuple hq
    obtain ⟨f0, f1, f2, f3, f4, f5⟩ := hf it (by simp)
    have hl := rv.length
    exact enum_endT (I.ok.hd hc) he hit p (by simp; omega) fun h' eb => ⟨rfl, I.turned (t' := s.toks) (fun b o hb q => eb b o hb q) f0 f1 f3 f4 f5⟩
  self := fun A i s Q E st h => let ⟨⟨_, he⟩, _⟩ := st; wpAny_pyIter_enum he h
/-- enumerate(e), e a list or a tuple -/
def iEnumA (K : PySem.W.Frag) (ta : TA) : TI := fun σ H R => ta σ H fun vs H1 => ∃ a xs, vs = [.ref a] ∧ ((SqL K H1 a xs ∧ R (Ite K a) H1) ∨ (SqT K H1 a xs ∧ R (IteT K a) H1))
theorem pi_enumA {X : Cx} {e : Expr} {ta : TA} {p pos tpos : Pos} {elts : List Expr} {kk : Nat} (hg : Gl X "enumerate") (hm : X.mg "enumerate" = none) (ha : PA X [e] ta) (hs : starEach [e] X.env = [(false, eval e X.env)] := by rfl) :
    PI X (.Tuple elts kk tpos) (.Call (.Name "enumerate" p) [e] [] pos) (iEnumA X.K ta) := by
  refine ⟨fun pins s σ H R I h => ?_⟩
  refine Call_ (ld_blt I hg hm boot_enumerate (PyProof.Rows.callWith_type1 (thn (ha.run pos pins s σ H _ I h) fun us s1 ⟨vs, H1, I1, r1, a, xs, ex, q1⟩ => ?_) hs rfl))
  subst ex
  cases r1 with
  | cons r rr =>
    cases rr
    cases r
    have isn : ∀ b ∈ [s1.heap.objs.size + 1, s1.heap.objs.size], s1.heap.objs.size ≤ b := fun b hb => by
      rcases (show b = s1.heap.objs.size + 1 ∨ b = s1.heap.objs.size by simpa using hb) with z | z
      · rw [z]; exact Nat.le_add_right _ _
      · rw [z]; exact Nat.le_refl _
    rcases q1 with ⟨hq, q⟩ | ⟨hq, q⟩
    · obtain ⟨its, rv, p', hz⟩ := I1.list hq
      refine call_enumerate_list p'.isList fun h' he hit hsz hk => wpAny_pyIter_enum he ?_
      have I2 : Inv X pins σ H1 { s1 with heap := h' } := I1.kept (t' := s1.toks) hk
      exact ⟨s1.heap.objs.size + 1, [s1.heap.objs.size + 1, s1.heap.objs.size], _, _, H1, rfl, I2, turn_enum a (s1.heap.objs.size + 1) s1.heap.objs.size, ⟨⟨.none, he⟩, hit, Nat.succ_ne_self _⟩, fun b hb => I1.fpOk (isn b hb) (I1.hok.fresh (isn b hb)), q⟩
    · obtain ⟨its, rv, p', hz⟩ := I1.tuple hq
      have la : a < s1.heap.objs.size := by obtain ⟨o, e, _⟩ := p'; exact Heap.lt_size e
      refine call_enum_any (begins_tuple a its.toArray) p' fun h' he hit hk => wpAny_pyIter_enum he ?_
      have I2 : Inv X pins σ H1 { s1 with heap := h' } := I1.kept (t' := s1.toks) hk
      exact ⟨s1.heap.objs.size + 1, [s1.heap.objs.size + 1, s1.heap.objs.size], _, _, H1, rfl, I2, turn_enumT a (s1.heap.objs.size + 1) s1.heap.objs.size, ⟨⟨.none, he⟩, ⟨_, hit, rfl, rfl⟩, Nat.succ_ne_self _, Nat.ne_of_lt la, Nat.ne_of_lt (Nat.lt_succ_of_lt la)⟩, fun b hb => I1.fpOk (isn b hb) (I1.hok.fresh (isn b hb)), q⟩
theorem walk_enumT {K : PySem.W.Frag} {a : Addr} {xs : List V} : Walk (IteT K a) xs.length (fun H => SqT K H a xs) (YPair (fun i => some (.int (i : Nat))) (fun i => xs[i]?)) := by
  refine ⟨fun i _ hi q => ⟨xs, xs[i], q, List.getElem?_eq_getElem hi⟩, fun _ q => ⟨xs, q, Nat.le_refl _⟩, fun i H v H' _ q y => ?_⟩
  obtain ⟨T, x, h1, h2, h3, h4⟩ := y
  exact ⟨T, .int (i : Nat), x, h1, h2, h3, rfl, h4 xs q⟩
/-! ### a call below the running body; len, bool, repr, == and != by the text's own methods -/
theorem tyx_looks {X : Cx} {pins : List (Addr × Obj)} {σ : L2.St} {H : Hp} {s : Shared} {y : V} {v t : Value} (I : Inv X pins σ H s) (ry : RelV y v) (ty : TyX X.K H y t) : PySem.W.Looks (model X.prog X.w) s.heap (typeOf v) t :=
  let ⟨_, Z, p, _⟩ := kit_of I ry ty; Z.ty _ _ I.kIn p
section
variable {X : Cx} {CX : CXT} {n : Nat} {f C : Addr} {fd : FuncData} {ps : List Str} {sp : Sp} {E : XK}
theorem run_at (F : FnOk X.prog X.w X.K X.mg X.base CX n f fd ps sp) (hb : Binds X.K fd ps []) (hx : Passes CX X E) {A : Around} (sb : Sub X n A) {pins : List (Addr × Obj)} {σ : L2.St} {H : Hp} {s : Shared} {us : List Value} {vs : List V} {Q : VK} (I : Inv X pins σ H s) (r : Vals vs us) (h : sp vs H Q E) :
    wpAny (model X.prog X.w) A (call (.ref f) us) (EP X pins σ Q) X.xe s := by
  have e0 : Env0 X.prog X.w X.K X.mg X.base A X.stack s H :=
    let e := I.env0
    ⟨by rw [sb.fr]; exact e.frames, e.mod, e.bs, e.bsz, e.funs, e.frf, e.hok, e.bare⟩
  have hl : (us ++ ([] : List Value)).length = ps.length := by
    rw [List.append_nil, ← r.length]
    exact F.len _ _ _ _ h
  have bd := hb s us I.kIn hl
  rw [List.append_nil] at bd
  refine wpAny_call (codeAny_mono (F.run A X.stack s H ⟨us, []⟩ us vs Q E sb.room e0 bd r h) fun r s' hq => ?_)
  cases r with
  | error e => exact hx pins σ H s e s' I hq
  | ok fl => cases fl <;> first | exact I.after hq | exact False.elim hq
/-- a special method of the class at C is the def at f -/
def Spc (K : PySem.W.Frag) (C : Addr) (m : Str) (f : Addr) : Prop := PySem.W.findIn K (.ref C) m = some (some (.ref f)) ∧ PySem.W.isFn K (.ref f) = true
theorem call_lenO (F : FnOk X.prog X.w X.K X.mg X.base CX n f fd ps sp) (hr : Room (n + 1) X.A) (hs : Spc X.K C "__len__" f) (hb : Binds X.K fd ps []) (hx : Passes CX X E) :
    CallR X (.builtin "len") (fun xs H Q => ∃ a dx fs, xs = [.ref a] ∧ H a = some (.ins C dx fs) ∧ sp [.ref a] H (fun v H' => ∃ i : Int, v = .int i ∧ 0 ≤ i ∧ i < 2 ^ 63 ∧ Q (.int i) H') E) := by
  intro pins s σ H xs us Q I r h
  obtain ⟨a, dx, fs, rfl, ea, q⟩ := h
  obtain ⟨u, rfl, ru⟩ := vals1 r
  cases ru
  obtain ⟨mA, J, _⟩ := ins_get I.hok ea
  obtain ⟨od, J, _⟩ := J.look
  obtain ⟨m, hF⟩ := I.fr
  refine PySem.W.len_K hF I.ok.mod.kin J hs.1 hs.2 (wpAny_mono (run_at F hb hx (⟨hr, rfl⟩ : Sub X (n + 1) X.A).in1 I r q) (fun v s' z => ?_) fun _ _ x => x)
  obtain ⟨v', H', I', rv, i, rfl, h0, h1, q'⟩ := z
  obtain ⟨t, rfl⟩ := rv
  exact ⟨⟨h0, h1⟩, .int i, H', I'.tok _, ⟨_, rfl⟩, q'⟩
theorem call_reprO (F : FnOk X.prog X.w X.K X.mg X.base CX n f fd ps sp) (hr : Room (n + 1) X.A) (hs : Spc X.K C "__repr__" f) (hb : Binds X.K fd ps []) (hx : Passes CX X E) :
    CallR X (.builtin "repr") (fun xs H Q => ∃ a dx fs, xs = [.ref a] ∧ H a = some (.ins C dx fs) ∧ sp [.ref a] H (fun v H' => ∃ z : Str, v = .str z ∧ Q (.str z) H') E) := by
  intro pins s σ H xs us Q I r h
  obtain ⟨a, dx, fs, rfl, ea, q⟩ := h
  obtain ⟨u, rfl, ru⟩ := vals1 r
  cases ru
  obtain ⟨mA, J, _⟩ := ins_get I.hok ea
  obtain ⟨od, J, _⟩ := J.look
  obtain ⟨m, hF⟩ := I.fr
  refine PySem.W.repr_K (hu_of hr) hF I.ok.mod.kin J hs.1 hs.2 (wpAny_mono (run_at F hb hx (⟨hr, rfl⟩ : Sub X (n + 1) X.A).in1 I r q) (fun v s' z => ?_) fun _ _ x => x)
  obtain ⟨v', H', I', rv, i, rfl, q'⟩ := z
  obtain ⟨t, rfl⟩ := rv
  exact ⟨.str i, H', I', ⟨_, rfl⟩, q'⟩
/-- what stands on the right of an own ==: its type, as the class sees it -/
def RhsT (K : PySem.W.Frag) (C : Addr) (H : Hp) (y : V) : Prop := ∃ t, TyX K H y t ∧ PySem.W.notFirst K C t = true
/-- != of a class that has no __ne__ of its own -/
theorem op_neO (F : FnOk X.prog X.w X.K X.mg X.base CX n f fd ps sp) (hr : Room (n + 2) X.A) (hs : Spc X.K C "__eq__" f) (hn : PySem.W.findIn X.K (.ref C) "__ne__" = some (some (.builtin "object.__ne__"))) (hm : PySem.W.mroIn X.K C (.type "object") = some true) (hb : Binds X.K fd ps []) (hx : Passes CX X E) :
    OpR X (compareOp .NotEq) (fun x y H Q => ∃ a dx fs, x = .ref a ∧ H a = some (.ins C dx fs) ∧ RhsT X.K C H y ∧ sp [.ref a, y] H (fun v H' => ∃ k : Bool, v = .bl k ∧ Q (.bl (!k)) H') E) := by
  intro pins s σ H x y u v Q I rx ry h
  obtain ⟨a, dx, fs, rfl, ea, ⟨t, ty, nf⟩, q⟩ := h
  cases rx
  obtain ⟨mA, J, _⟩ := ins_get I.hok ea
  obtain ⟨od, J, _⟩ := J.look
  obtain ⟨m, hF⟩ := I.fr
  have lk := tyx_looks I ry ty
  have sub : PySem.W.Looks (model X.prog X.w) s.heap (isInstance (.ref a) (.type "object")) true := J.type.andThen (PySem.W.looks_mroIn I.kIn hm)
  -- the body of object.__ne__
  have own : wpAny (model X.prog X.w) X.A (call (.builtin "object.__ne__") [.ref a, v]) (fun u s' => ∃ k : Bool, u = .bool k ∧ EP X pins σ Q (.bool k) s') X.xe s := by
    refine wpAny_call (codeAny_call_builtin PySem.F.cmp_object.ne.plain PySem.F.cmpEntry_ne (PySem.W.check_slot PySem.F.cmpKind_ne PySem.F.cmpSplit_ne sub (PySem.F.cmpArgs_ne _ _) ?_))
    have hu1 : X.A.in1.units < cLine := hu_of hr
    have eqc : wpAny (model X.prog X.w) X.A.in1 (callSpecialIfBound? (.ref a) "__eq__" [v]) (fun r s' => ∃ k : Bool, r = some (.bool k) ∧ EP X pins σ Q (.bool (!k)) s') X.xe s := by
      refine PySem.W.ifBound_K I.kIn J hs.1 hs.2 (wpAny_mono (run_at F hb hx ((⟨hr.mono (Nat.le_succ _), rfl⟩ : Sub X (n + 1) X.A).in1) I (show Vals [V.ref a, y] [Value.ref a, v] from .cons rfl (.cons ry .nil)) q) (fun w s' z => ?_) fun _ _ x => x)
      obtain ⟨v', H', I', rv, k, rfl, q'⟩ := z
      cases rv
      exact ⟨k, rfl, .bl (!k), H', I', rfl, q'⟩
    unfold Builtin.«object.__ne__»
    repeat (first
      | with_reducible refine wpAny_cRoomFor hu1 ?_
      | (refine wpAny_bind (m := callSpecialIfBound? (.ref a) (Str.ofString "__eq__") [v]) (wpAny_mono eqc (fun r s' z => ?_) fun _ _ x => x)
         obtain ⟨k, rfl, z⟩ := z
         repeat (first | (refine wpAny_bind (m := truthy (.bool _)) (wpAny_truthy_bool ?_)) | wp_step))
      | wp_step)
    all_goals exact ⟨_, rfl, z⟩
  have bn := PySem.F.cmp_object.ne.bind (Value.ref a)
  have fin : ∀ s', s' = s → wpAny (model X.prog X.w) X.A (call (.builtin "object.__ne__") ([.ref a] ++ [v]) >>= fun r => pure (some r)) (fun r s' => ∃ k : Bool, r = some (.bool k) ∧ EP X pins σ Q (.bool k) s') X.xe s' := fun s' e => by
    rw [e]
    refine wpAny_bind (wpAny_mono own (fun r s' z => ?_) fun _ _ x => x)
    obtain ⟨k, rfl, z⟩ := z
    exact wpAny_pure ⟨k, rfl, z⟩
  have isb : wpAny (model X.prog X.w) X.A (callSpecialIfBound? (.ref a) "__ne__" [v]) (fun r s' => ∃ k : Bool, r = some (.bool k) ∧ EP X pins σ Q (.bool k) s') X.xe s := by
    simp only [callSpecialIfBound?, bindSpecialIfBound?]
    refine wpAny_holding ?_
    refine wpAny_bind (wpAny_bind (wpAny_bind (J.type.here ?_)))
    refine (PySem.W.looks_findIn I.kIn hn).here ?_
    refine wpAny_bind (wpAny_askSetting (wpAny_ite ?_))
    split
    · exact wpAny_bind (wpAny_of_eq bn (wpAny_pure (fin s rfl)))
    · exact wpAny_tryCatch (wpAny_bind (wpAny_of_eq bn (wpAny_pure (fin s rfl))))
  have one : wpAny (model X.prog X.w) X.A (tryCompare (.ref a) "__ne__" v) (fun r s' => ∃ z, r = some z ∧ EP X pins σ Q z s') X.xe s := by
    unfold tryCompare
    refine wpAny_bind (wpAny_mono isb (fun r s' z => ?_) fun _ _ x => x)
    obtain ⟨k, rfl, z⟩ := z
    exact wpAny_pure ⟨_, rfl, z⟩
  have last : wpAny (model X.prog X.w) X.A (tryCompare (.ref a) "__ne__" v >>= fun r => match r with | some z => pure z | x => unsupported "") (EP X pins σ Q) X.xe s := by
    refine wpAny_bind (wpAny_mono one (fun r s' z => ?_) fun _ _ x => x)
    obtain ⟨z, rfl, hq⟩ := z
    exact wpAny_pure hq
  show wpAny (model X.prog X.w) X.A (richCompare .NotEq (.ref a) v) (EP X pins σ Q) X.xe s
  unfold richCompare
  simp only [oneThing_ref]
  refine wpAny_holding ?_
  refine wpAny_bind (wpAny_cRoomFor hr.units0 ?_)
  refine wpAny_bind (J.type.here ?_)
  refine wpAny_bind (lk.here ?_)
  have tail : ∀ {k : Option Value → Sem Value}, (∀ z, k (some z) = pure z) → wpAny (model X.prog X.w) X.A (tryCompare (.ref a) "__ne__" v >>= k) (EP X pins σ Q) X.xe s := fun {k} e => by
    refine wpAny_bind (wpAny_mono one (fun r s' z => ?_) fun _ _ x => x)
    obtain ⟨z, rfl, hq⟩ := z
    rw [e]
    exact wpAny_pure hq
  split
  · rename_i dif
    have e : PySem.W.subIn X.K t (.ref C) = some false := by
      rcases Bool.or_eq_true_iff.mp nf with e | e
      · rw [beq_iff_eq.mp e] at dif
        simp at dif
      · exact beq_iff_eq.mp e
    refine wpAny_bind ((PySem.W.looks_subIn I.kIn e).here ?_)
    exact tail fun z => rfl
  · exact wpAny_bind (wpAny_pure (tail fun z => rfl))
end
/-! ### isinstance of an own class -/
def six : List String := ["NoneType", "bool", "int", "str", "list", "tuple"]
structure IsK (K : PySem.W.Frag) (C : Addr) : Prop where
  ins : C8.InsC K C
  no : ∀ t ∈ six, PySem.W.kitOne K (.type t) (.ref C) = some false
  ne : PySem.W.findIn K (.ref C) "__ne__" = some (some (.builtin "object.__ne__"))
theorem isk_six {K : PySem.W.Frag} {C : Addr} (a : PySem.W.kitOne K (.type "NoneType") (.ref C) = some false) (b : PySem.W.kitOne K (.type "bool") (.ref C) = some false) (c : PySem.W.kitOne K (.type "int") (.ref C) = some false) (d : PySem.W.kitOne K (.type "str") (.ref C) = some false) (e : PySem.W.kitOne K (.type "list") (.ref C) = some false) (f : PySem.W.kitOne K (.type "tuple") (.ref C) = some false) : ∀ t ∈ six, PySem.W.kitOne K (.type t) (.ref C) = some false := by
  intro t m
  simp only [six, List.mem_cons, List.not_mem_nil, or_false] at m
  rcases m with rfl | rfl | rfl | rfl | rfl | rfl <;> assumption
theorem TyX.insK {K : PySem.W.Frag} {C a dx : Addr} {H : Hp} {fs : List (Str × V)} (I : IsK K C) (e : H a = some (.ins C dx fs)) : TyX K H (.ref a) (.ref C) := .base (.ins e I.ins.cl I.ins.ha I.ins.hn I.ins.htk I.ins.hm)
theorem RhsT.ins {K : PySem.W.Frag} {C a dx : Addr} {H : Hp} {fs : List (Str × V)} (I : IsK K C) (e : H a = some (.ins C dx fs)) : RhsT K C H (.ref a) := ⟨_, TyX.insK I e, by unfold PySem.W.notFirst; rw [beq_self_eq_true]; rfl⟩
/-- keyword defaults, one by one -/
theorem kwmem1 {K : PySem.W.Frag} {D : Addr} {q : Str × V} {l : List (Str × V)} (h : ∃ u, PySem.W.nsIn K D q.1 = some (some u) ∧ RelV q.2 u) (t : ∀ q ∈ l, ∃ u, PySem.W.nsIn K D q.1 = some (some u) ∧ RelV q.2 u) : ∀ p ∈ q :: l, ∃ u, PySem.W.nsIn K D p.1 = some (some u) ∧ RelV p.2 u := fun p m => by
  rcases List.mem_cons.mp m with e | m
  · rw [e]; exact h
  · exact t p m
theorem kwmem0 {K : PySem.W.Frag} {D : Addr} : ∀ q ∈ ([] : List (Str × V)), ∃ u, PySem.W.nsIn K D q.1 = some (some u) ∧ RelV q.2 u := fun _ m => nomatch m

/-! ### the text by places, what the top has written -/
/-- a table of the text: the first entry of a word -/
def findT {α : Type} (l : List (Str × α)) (z : Str) : Option α := (l.find? fun p => decide (p.1 = z)).map (·.2)
def RelOpt {α : Type} (R : α → Value → Prop) : Option α → Option Value → Prop
  | some x, some u => R x u
  | none, none => True
  | _, _ => False
def RelTu (K : PySem.W.Frag) (xs : List V) (u : Value) : Prop := ∃ t, u = .ref t ∧ ∀ H : Hp, SqT K H t xs
theorem find_rel {α : Type} {R : α → Value → Prop} : ∀ {l : List (Str × α)} {m : List (Str × Value)}, Paired (fun (p : Str × α) (q : Str × Value) => p.1 = q.1 ∧ R p.2 q.2) l m → ∀ z, RelOpt R (findT l z) (findT m z)
  | _, _, .nil, _ => trivial
  | p :: l, q :: m, .cons r t, z => by
    unfold findT
    rw [List.find?_cons, List.find?_cons, ← r.1]
    cases decide (p.1 = z) with
    | true => exact r.2
    | false => exact find_rel t z
theorem nsIn_of {K : PySem.W.Frag} {c : Addr} {ty : Value} {dd : Option Addr} {es : Array DictEntry} {n : Nat} {sl : Array (Option Value)} (h : K.lookup c = some ⟨ty, dd, .dict es n, sl⟩) {L : List (Str × Value)}
    (e : Paired (fun (d : DictEntry) (p : Str × Value) => (∃ t, d.key = .str p.1 t) ∧ d.val = p.2) es.toList L) (z : Str) : PySem.W.nsIn K c z = some (findT L z) := by
  unfold PySem.W.nsIn
  rw [h]
  dsimp only
  have k : ∀ (l : List DictEntry) (L : List (Str × Value)), Paired (fun (d : DictEntry) (p : Str × Value) => (∃ t, d.key = .str p.1 t) ∧ d.val = p.2) l L → (l.find? (·.key.isStr z)).map (·.val) = findT L z ∧ l.any (·.refKey) = false := by
    intro l L e
    induction e with
    | nil => exact ⟨rfl, rfl⟩
    | @cons d p l L r _ ih =>
      obtain ⟨⟨t, hk⟩, hv⟩ := r
      have e1 : d.key.isStr z = decide (p.1 = z) := by
        rw [hk]
        show (p.1 == z) = decide (p.1 = z)
        rw [Bool.eq_iff_iff]
        simp
      have e2 : d.refKey = false := by
        unfold DictEntry.refKey
        rw [hk]
      refine ⟨?_, by rw [List.any_cons, e2, ih.2]; rfl⟩
      unfold findT at ih ⊢
      rw [List.find?_cons, List.find?_cons, e1]
      cases decide (p.1 = z) with
      | true => exact congrArg some hv
      | false => exact ih.1
  obtain ⟨k1, k2⟩ := k _ _ e
  cases q : es.toList.find? (·.key.isStr z) with
  | some d =>
    rw [q] at k1
    rw [← k1]
    rfl
  | none =>
    rw [q] at k1
    rw [← k1]
    simp [k2]
/-- one of a list, as a list -/
def pick {α : Type} (l : List α) (i : Nat) : List α := (l.drop i).take 1
def top (i : Nat) : Stmt := PySem.Challenge.pw_leastimage_k07_objects_and_archives_refu.main.body.getD i (.Pass ⟨0, 0, 0, 0⟩)
abbrev s_is_name : Stmt := top 19
abbrev N_is_name : List Str := ["value", "letter"]
theorem sc_is_name : FnScope N_is_name ["value"] (defScope s_is_name) := ⟨rfl, rfl, rfl, by decide +kernel, rfl, by decide +kernel, by decide +kernel⟩
abbrev s_is_register : Stmt := top 20
abbrev N_is_register : List Str := ["value"]
theorem sc_is_register : FnScope N_is_register ["value"] (defScope s_is_register) := ⟨rfl, rfl, rfl, by decide +kernel, rfl, by decide +kernel, by decide +kernel⟩
abbrev s_is_number : Stmt := top 21
abbrev N_is_number : List Str := ["value", "least", "most"]
theorem sc_is_number : FnScope N_is_number ["value", "least", "most"] (defScope s_is_number) := ⟨rfl, rfl, rfl, by decide +kernel, rfl, by decide +kernel, by decide +kernel⟩
abbrev s_is_code_row : Stmt := top 27
abbrev N_is_code_row : List Str := ["value", "word"]
theorem sc_is_code_row : FnScope N_is_code_row ["value"] (defScope s_is_code_row) := ⟨rfl, rfl, rfl, by decide +kernel, rfl, by decide +kernel, by decide +kernel⟩
abbrev s_is_data_row : Stmt := top 28
abbrev N_is_data_row : List Str := ["value", "word"]
theorem sc_is_data_row : FnScope N_is_data_row ["value"] (defScope s_is_data_row) := ⟨rfl, rfl, rfl, by decide +kernel, rfl, by decide +kernel, by decide +kernel⟩
abbrev s_is_row_of : Stmt := top 29
abbrev N_is_row_of : List Str := ["part", "value"]
theorem sc_is_row_of : FnScope N_is_row_of ["part", "value"] (defScope s_is_row_of) := ⟨rfl, rfl, rfl, by decide +kernel, rfl, by decide +kernel, by decide +kernel⟩
abbrev s_is_closing : Stmt := top 30
abbrev N_is_closing : List Str := ["row"]
theorem sc_is_closing : FnScope N_is_closing ["row"] (defScope s_is_closing) := ⟨rfl, rfl, rfl, by decide +kernel, rfl, by decide +kernel, by decide +kernel⟩
abbrev s_word_of : Stmt := top 31
abbrev N_word_of : List Str := ["value"]
theorem sc_word_of : FnScope N_word_of ["value"] (defScope s_word_of) := ⟨rfl, rfl, rfl, by decide +kernel, rfl, by decide +kernel, by decide +kernel⟩
abbrev s_fit : Stmt := top 32
abbrev N_fit : List Str := ["items", "kinds", "item", "kind"]
theorem sc_fit : FnScope N_fit ["items", "kinds"] (defScope s_fit) := ⟨rfl, rfl, rfl, by decide +kernel, rfl, by decide +kernel, by decide +kernel⟩
abbrev s_fits : Stmt := top 33
abbrev N_fits : List Str := ["item", "kind", "least", "most"]
theorem sc_fits : FnScope N_fits ["item", "kind"] (defScope s_fits) := ⟨rfl, rfl, rfl, by decide +kernel, rfl, by decide +kernel, by decide +kernel⟩
abbrev s_Piece___init__ : Stmt := inClass (top 39) 0
abbrev N_Piece___init__ : List Str := ["self", "name", "part", "rows", "alignment", "scope", "keep"]
theorem sc_Piece___init__ : FnScope N_Piece___init__ ["self", "name", "part", "rows", "alignment", "scope", "keep"] (defScope s_Piece___init__) := ⟨rfl, rfl, rfl, by decide +kernel, rfl, by decide +kernel, by decide +kernel⟩
abbrev s_is_part : Stmt := top 40
abbrev N_is_part : List Str := ["value"]
theorem sc_is_part : FnScope N_is_part ["value"] (defScope s_is_part) := ⟨rfl, rfl, rfl, by decide +kernel, rfl, by decide +kernel, by decide +kernel⟩
abbrev s_is_alignment : Stmt := top 41
abbrev N_is_alignment : List Str := ["value"]
theorem sc_is_alignment : FnScope N_is_alignment ["value"] (defScope s_is_alignment) := ⟨rfl, rfl, rfl, by decide +kernel, rfl, by decide +kernel, by decide +kernel⟩
abbrev s_is_scope_of : Stmt := top 42
abbrev N_is_scope_of : List Str := ["part", "value"]
theorem sc_is_scope_of : FnScope N_is_scope_of ["part", "value"] (defScope s_is_scope_of) := ⟨rfl, rfl, rfl, by decide +kernel, rfl, by decide +kernel, by decide +kernel⟩
abbrev s_ends_closing : Stmt := top 43
abbrev N_ends_closing : List Str := ["part", "rows"]
theorem sc_ends_closing : FnScope N_ends_closing ["part", "rows"] (defScope s_ends_closing) := ⟨rfl, rfl, rfl, by decide +kernel, rfl, by decide +kernel, by decide +kernel⟩
abbrev s_check_rows : Stmt := top 44
abbrev N_check_rows : List Str := ["part", "rows", "at", "row"]
theorem sc_check_rows : FnScope N_check_rows ["part", "rows"] (defScope s_check_rows) := ⟨rfl, rfl, rfl, by decide +kernel, rfl, by decide +kernel, by decide +kernel⟩
abbrev s_Object___init__ : Stmt := inClass (top 49) 0
abbrev N_Object___init__ : List Str := ["self", "name", "outside", "pieces"]
theorem sc_Object___init__ : FnScope N_Object___init__ ["self", "name", "outside", "pieces"] (defScope s_Object___init__) := ⟨rfl, rfl, rfl, by decide +kernel, rfl, by decide +kernel, by decide +kernel⟩
abbrev s_Object_pieces : Stmt := inClass (top 49) 1
abbrev N_Object_pieces : List Str := ["self"]
theorem sc_Object_pieces : FnScope N_Object_pieces ["self"] (defScope s_Object_pieces) := ⟨rfl, rfl, rfl, by decide +kernel, rfl, by decide +kernel, by decide +kernel⟩
abbrev s_Object_outside : Stmt := inClass (top 49) 2
abbrev N_Object_outside : List Str := ["self"]
theorem sc_Object_outside : FnScope N_Object_outside ["self"] (defScope s_Object_outside) := ⟨rfl, rfl, rfl, by decide +kernel, rfl, by decide +kernel, by decide +kernel⟩
abbrev s_Object_with_piece : Stmt := inClass (top 49) 4
abbrev N_Object_with_piece : List Str := ["self", "piece", "pieces"]
theorem sc_Object_with_piece : FnScope N_Object_with_piece ["self", "piece"] (defScope s_Object_with_piece) := ⟨rfl, rfl, rfl, by decide +kernel, rfl, by decide +kernel, by decide +kernel⟩
abbrev s_Object___contains__ : Stmt := inClass (top 49) 5
abbrev N_Object___contains__ : List Str := ["self", "value"]
theorem sc_Object___contains__ : FnScope N_Object___contains__ ["self", "value"] (defScope s_Object___contains__) := ⟨rfl, rfl, rfl, by decide +kernel, rfl, by decide +kernel, by decide +kernel⟩
abbrev s_Object___eq__ : Stmt := inClass (top 49) 6
abbrev N_Object___eq__ : List Str := ["self", "other"]
theorem sc_Object___eq__ : FnScope N_Object___eq__ ["self", "other"] (defScope s_Object___eq__) := ⟨rfl, rfl, rfl, by decide +kernel, rfl, by decide +kernel, by decide +kernel⟩
abbrev s_Object___len__ : Stmt := inClass (top 49) 7
abbrev N_Object___len__ : List Str := ["self"]
theorem sc_Object___len__ : FnScope N_Object___len__ ["self"] (defScope s_Object___len__) := ⟨rfl, rfl, rfl, by decide +kernel, rfl, by decide +kernel, by decide +kernel⟩
abbrev s_Object___repr__ : Stmt := inClass (top 49) 9
abbrev N_Object___repr__ : List Str := ["self"]
theorem sc_Object___repr__ : FnScope N_Object___repr__ ["self"] (defScope s_Object___repr__) := ⟨rfl, rfl, rfl, by decide +kernel, rfl, by decide +kernel, by decide +kernel⟩
abbrev s_Archive___init__ : Stmt := inClass (top 50) 0
abbrev N_Archive___init__ : List Str := ["self", "name", "members", "at", "member"]
theorem sc_Archive___init__ : FnScope N_Archive___init__ ["self", "name", "members"] (defScope s_Archive___init__) := ⟨rfl, rfl, rfl, by decide +kernel, rfl, by decide +kernel, by decide +kernel⟩
abbrev s_Archive___len__ : Stmt := inClass (top 50) 5
abbrev N_Archive___len__ : List Str := ["self"]
theorem sc_Archive___len__ : FnScope N_Archive___len__ ["self"] (defScope s_Archive___len__) := ⟨rfl, rfl, rfl, by decide +kernel, rfl, by decide +kernel, by decide +kernel⟩
abbrev s_wide_object : Stmt := top 51
abbrev N_wide_object : List Str := ["name", "pieces", "outside", "wide"]
theorem sc_wide_object : FnScope N_wide_object ["name", "pieces", "outside"] (defScope s_wide_object) := ⟨rfl, rfl, rfl, by decide +kernel, rfl, by decide +kernel, by decide +kernel⟩
abbrev s_check_object : Stmt := top 52
abbrev N_check_object : List Str := ["name", "pieces", "outside", "is_wide", "at", "piece"]
theorem sc_check_object : FnScope N_check_object ["name", "pieces", "outside", "is_wide"] (defScope s_check_object) := ⟨rfl, rfl, rfl, by decide +kernel, rfl, by decide +kernel, by decide +kernel⟩
abbrev s_check_names : Stmt := top 53
abbrev N_check_names : List Str := ["parts", "ahead", "part"]
theorem sc_check_names : FnScope N_check_names ["parts"] (defScope s_check_names) := ⟨rfl, rfl, rfl, by decide +kernel, rfl, by decide +kernel, by decide +kernel⟩
abbrev s_check_outside : Stmt := top 54
abbrev N_check_outside : List Str := ["outside", "names", "taken", "name", "at"]
theorem sc_check_outside : FnScope N_check_outside ["outside", "names"] (defScope s_check_outside) := ⟨rfl, rfl, rfl, by decide +kernel, rfl, by decide +kernel, by decide +kernel⟩
abbrev s_names : Stmt := top 55
abbrev N_names : List Str := ["parts", "part"]
theorem sc_names : FnScope N_names ["parts"] (defScope s_names) := ⟨rfl, rfl, rfl, by decide +kernel, rfl, by decide +kernel, by decide +kernel⟩
abbrev s_law_bag : Stmt := top 57
abbrev N_law_bag : List Str := ["_law_script", "_law_mixed_here", "_law_piled"]
theorem sc_law_bag : FnScope N_law_bag ["_law_script"] (defScope s_law_bag) := ⟨rfl, rfl, rfl, by decide +kernel, rfl, by decide +kernel, by decide +kernel⟩
abbrev s_law_draw : Stmt := top 58
abbrev N_law_draw : List Str := ["_law_bag_here", "_law_sides", "_law_piled", "_law_digit", "_law_seed"]
theorem sc_law_draw : FnScope N_law_draw ["_law_bag_here", "_law_sides"] (defScope s_law_draw) := ⟨rfl, rfl, rfl, by decide +kernel, rfl, by decide +kernel, by decide +kernel⟩
abbrev s_law_of : Stmt := top 59
abbrev N_law_of : List Str := ["_law_bag_here", "_law_things"]
theorem sc_law_of : FnScope N_law_of ["_law_bag_here", "_law_things"] (defScope s_law_of) := ⟨rfl, rfl, rfl, by decide +kernel, rfl, by decide +kernel, by decide +kernel⟩
abbrev s_law_some : Stmt := top 60
abbrev N_law_some : List Str := ["_law_bag_here", "_law_things", "_law_thing"]
theorem sc_law_some : FnScope N_law_some ["_law_bag_here", "_law_things"] (defScope s_law_some) := ⟨rfl, rfl, rfl, by decide +kernel, rfl, by decide +kernel, by decide +kernel⟩
abbrev s_law_mixed : Stmt := top 61
abbrev N_law_mixed : List Str := ["_law_bag_here", "_law_things", "_law_left", "_law_found", "_law_k"]
theorem sc_law_mixed : FnScope N_law_mixed ["_law_bag_here", "_law_things"] (defScope s_law_mixed) := ⟨rfl, rfl, rfl, by decide +kernel, rfl, by decide +kernel, by decide +kernel⟩
abbrev s_law_same : Stmt := top 62
abbrev N_law_same : List Str := ["_law_found", "_law_due", "_law_a", "_law_b"]
theorem sc_law_same : FnScope N_law_same ["_law_found", "_law_due"] (defScope s_law_same) := ⟨rfl, rfl, rfl, by decide +kernel, rfl, by decide +kernel, by decide +kernel⟩
abbrev s_law_field : Stmt := top 63
abbrev N_law_field : List Str := ["_law_e"]
theorem sc_law_field : FnScope N_law_field ["_law_e"] (defScope s_law_field) := ⟨rfl, rfl, rfl, by decide +kernel, rfl, by decide +kernel, by decide +kernel⟩
abbrev s_law_try : Stmt := top 64
abbrev N_law_try : List Str := ["_law_ask", "_law_e"]
theorem sc_law_try : FnScope N_law_try ["_law_ask"] (defScope s_law_try) := ⟨rfl, rfl, rfl, by decide +kernel, rfl, by decide +kernel, by decide +kernel⟩
abbrev s_law_why : Stmt := top 65
abbrev N_law_why : List Str := ["_law_ask", "_law_found"]
theorem sc_law_why : FnScope N_law_why ["_law_ask"] (defScope s_law_why) := ⟨rfl, rfl, rfl, by decide +kernel, rfl, by decide +kernel, by decide +kernel⟩
abbrev s_law_whys : Stmt := top 66
abbrev N_law_whys : List Str := ["_law_asks", "_law_ask"]
theorem sc_law_whys : FnScope N_law_whys ["_law_asks"] (defScope s_law_whys) := ⟨rfl, rfl, rfl, by decide +kernel, rfl, by decide +kernel, by decide +kernel⟩
abbrev s_law_odd : Stmt := top 67
abbrev N_law_odd : List Str := ["_law_bag_here", "_law_more"]
theorem sc_law_odd : FnScope N_law_odd ["_law_bag_here", "_law_more"] (defScope s_law_odd) := ⟨rfl, rfl, rfl, by decide +kernel, rfl, by decide +kernel, by decide +kernel⟩
abbrev s_law_titles : Stmt := top 68
abbrev N_law_titles : List Str := ["_law_bag_here", "_law_many", "_law_left", "_law_found", "_law_stem", "_law_k", "_law_spot"]
theorem sc_law_titles : FnScope N_law_titles ["_law_bag_here", "_law_many"] (defScope s_law_titles) := ⟨rfl, rfl, rfl, by decide +kernel, rfl, by decide +kernel, by decide +kernel⟩
abbrev s_law_is_title : Stmt := top 69
abbrev N_law_is_title : List Str := ["_law_thing", "_law_sign"]
theorem sc_law_is_title : FnScope N_law_is_title ["_law_thing"] (defScope s_law_is_title) := ⟨rfl, rfl, rfl, by decide +kernel, rfl, by decide +kernel, by decide +kernel⟩
abbrev s_law_outside_due : Stmt := top 70
abbrev N_law_outside_due : List Str := ["_law_lot", "_law_names_y", "_law_k"]
theorem sc_law_outside_due : FnScope N_law_outside_due ["_law_lot", "_law_names_y"] (defScope s_law_outside_due) := ⟨rfl, rfl, rfl, by decide +kernel, rfl, by decide +kernel, by decide +kernel⟩
abbrev s_law_object_due : Stmt := top 71
abbrev N_law_object_due : List Str := ["_law_title", "_law_values", "_law_lot", "_law_k", "_law_names_y", "_law_one"]
theorem sc_law_object_due : FnScope N_law_object_due ["_law_title", "_law_values", "_law_lot"] (defScope s_law_object_due) := ⟨rfl, rfl, rfl, by decide +kernel, rfl, by decide +kernel, by decide +kernel⟩
abbrev s_law_archive_due : Stmt := top 72
abbrev N_law_archive_due : List Str := ["_law_title", "_law_values", "_law_k", "_law_names_y", "_law_one"]
theorem sc_law_archive_due : FnScope N_law_archive_due ["_law_title", "_law_values"] (defScope s_law_archive_due) := ⟨rfl, rfl, rfl, by decide +kernel, rfl, by decide +kernel, by decide +kernel⟩
abbrev s_law_small_piece : Stmt := top 73
abbrev N_law_small_piece : List Str := ["_law_title"]
theorem sc_law_small_piece : FnScope N_law_small_piece ["_law_title"] (defScope s_law_small_piece) := ⟨rfl, rfl, rfl, by decide +kernel, rfl, by decide +kernel, by decide +kernel⟩
abbrev s_law_full_so : Stmt := top 74
abbrev N_law_full_so : List Str := ["_law_pool", "_law_p", "_law_o", "_law_own", "_law_twice", "_law_eight", "_law_asks", "_law_due"]
theorem sc_law_full_so : FnScope N_law_full_so ["_law_pool"] (defScope s_law_full_so) := ⟨rfl, rfl, rfl, by decide +kernel, rfl, by decide +kernel, by decide +kernel⟩
abbrev s_law_wide_so : Stmt := top 75
abbrev N_law_wide_so : List Str := ["_law_pool", "_law_p", "_law_given", "_law_beyond", "_law_wide", "_law_far", "_law_told", "_law_one", "_law_asks", "_law_due"]
theorem sc_law_wide_so : FnScope N_law_wide_so ["_law_pool", "_law_p"] (defScope s_law_wide_so) := ⟨rfl, rfl, rfl, by decide +kernel, rfl, by decide +kernel, by decide +kernel⟩
abbrev s_law : Stmt := top 76
abbrev N_law : List Str := ["_law_script", "_law_bag_here", "_law_pool", "_law_turn", "_law_few", "_law_title", "_law_values", "_law_k", "_law_lot", "_law_spot", "_law_due", "_law_asks", "_law_one", "_law_other"]
theorem sc_law : FnScope N_law ["_law_script"] (defScope s_law) := ⟨rfl, rfl, rfl, by decide +kernel, rfl, by decide +kernel, by decide +kernel⟩
set_option genInjectivity false in
set_option genSizeOf false in
structure Fs where
  (a_is_name : Addr) (d_is_name : FuncData)
  (a_is_register : Addr) (d_is_register : FuncData)
  (a_is_number : Addr) (d_is_number : FuncData)
  (a_is_code_row : Addr) (d_is_code_row : FuncData)
  (a_is_data_row : Addr) (d_is_data_row : FuncData)
  (a_is_row_of : Addr) (d_is_row_of : FuncData)
  (a_is_closing : Addr) (d_is_closing : FuncData)
  (a_word_of : Addr) (d_word_of : FuncData)
  (a_fit : Addr) (d_fit : FuncData)
  (a_fits : Addr) (d_fits : FuncData)
  (a_Piece___init__ : Addr) (d_Piece___init__ : FuncData)
  (a_is_part : Addr) (d_is_part : FuncData)
  (a_is_alignment : Addr) (d_is_alignment : FuncData)
  (a_is_scope_of : Addr) (d_is_scope_of : FuncData)
  (a_ends_closing : Addr) (d_ends_closing : FuncData)
  (a_check_rows : Addr) (d_check_rows : FuncData)
  (a_Object___init__ : Addr) (d_Object___init__ : FuncData)
  (a_Object_pieces : Addr) (d_Object_pieces : FuncData)
  (a_Object_outside : Addr) (d_Object_outside : FuncData)
  (a_Object_with_piece : Addr) (d_Object_with_piece : FuncData)
  (a_Object___contains__ : Addr) (d_Object___contains__ : FuncData)
  (a_Object___eq__ : Addr) (d_Object___eq__ : FuncData)
  (a_Object___len__ : Addr) (d_Object___len__ : FuncData)
  (a_Object___repr__ : Addr) (d_Object___repr__ : FuncData)
  (a_Archive___init__ : Addr) (d_Archive___init__ : FuncData)
  (a_Archive___len__ : Addr) (d_Archive___len__ : FuncData)
  (a_wide_object : Addr) (d_wide_object : FuncData)
  (a_check_object : Addr) (d_check_object : FuncData)
  (a_check_names : Addr) (d_check_names : FuncData)
  (a_check_outside : Addr) (d_check_outside : FuncData)
  (a_names : Addr) (d_names : FuncData)
  (a_law_bag : Addr) (d_law_bag : FuncData)
  (a_law_draw : Addr) (d_law_draw : FuncData)
  (a_law_of : Addr) (d_law_of : FuncData)
  (a_law_some : Addr) (d_law_some : FuncData)
  (a_law_mixed : Addr) (d_law_mixed : FuncData)
  (a_law_same : Addr) (d_law_same : FuncData)
  (a_law_field : Addr) (d_law_field : FuncData)
  (a_law_try : Addr) (d_law_try : FuncData)
  (a_law_why : Addr) (d_law_why : FuncData)
  (a_law_whys : Addr) (d_law_whys : FuncData)
  (a_law_odd : Addr) (d_law_odd : FuncData)
  (a_law_titles : Addr) (d_law_titles : FuncData)
  (a_law_is_title : Addr) (d_law_is_title : FuncData)
  (a_law_outside_due : Addr) (d_law_outside_due : FuncData)
  (a_law_object_due : Addr) (d_law_object_due : FuncData)
  (a_law_archive_due : Addr) (d_law_archive_due : FuncData)
  (a_law_small_piece : Addr) (d_law_small_piece : FuncData)
  (a_law_full_so : Addr) (d_law_full_so : FuncData)
  (a_law_wide_so : Addr) (d_law_wide_so : FuncData)
  (a_law : Addr) (d_law : FuncData)
  (e_CODE_ROWS : Array DictEntry) (z_CODE_ROWS : Nat)
  (e_DATA_ROWS : Array DictEntry) (z_DATA_ROWS : Nat)
  (e_BOUNDS : Array DictEntry) (z_BOUNDS : Nat)
  (C_Piece : Addr)
  (C_Object : Addr)
  (C_Archive : Addr)
  (c_REGISTERS : Addr)
  (c_CODE_ROWS : Addr)
  (c_DATA_ROWS : Addr)
  (c_BOUNDS : Addr)
  (c_CLOSING : Addr)
  (c_PARTS : Addr)
  (c_ALIGNMENTS : Addr)
  (c_SCOPES : Addr)
  (e_Object___init___outside : Addr)
def tb_CODE_ROWS : List (Str × List V) := [("put", [.str "R", .str "n"]), ("name", [.str "R", .str "N"]), ("add", [.str "R", .str "R"]), ("take", [.str "R", .str "R"]), ("load", [.str "R", .str "R", .str "d"]), ("store", [.str "R", .str "R", .str "d"]), ("jump", [.str "N"]), ("ifzero", [.str "R", .str "N"]), ("call", [.str "N"]), ("callby", [.str "R"]), ("back", []), ("out", [.str "R"]), ("halt", []), ("room", [.str "k"])]
def tb_DATA_ROWS : List (Str × List V) := [("word", [.str "n"]), ("address", [.str "N"]), ("room", [.str "k"])]
def tb_BOUNDS : List (Str × List V) := [("n", [.int 0, .int 65535]), ("d", [.int 0, .int 15]), ("k", [.int 1, .int 120])]
structure Txt (K : PySem.W.Frag) (w : World) (mg : Str → Option Value) (Z : Fs) : Prop where
  F_is_name : Fun K "is_name" "is_name" s_is_name Z.a_is_name Z.d_is_name
  m_is_name : mg "is_name" = some (.ref Z.a_is_name)
  b_is_name : Binds K Z.d_is_name ["value"] []
  F_is_register : Fun K "is_register" "is_register" s_is_register Z.a_is_register Z.d_is_register
  m_is_register : mg "is_register" = some (.ref Z.a_is_register)
  b_is_register : Binds K Z.d_is_register ["value"] []
  F_is_number : Fun K "is_number" "is_number" s_is_number Z.a_is_number Z.d_is_number
  m_is_number : mg "is_number" = some (.ref Z.a_is_number)
  b_is_number : Binds K Z.d_is_number ["value", "least", "most"] []
  F_is_code_row : Fun K "is_code_row" "is_code_row" s_is_code_row Z.a_is_code_row Z.d_is_code_row
  m_is_code_row : mg "is_code_row" = some (.ref Z.a_is_code_row)
  b_is_code_row : Binds K Z.d_is_code_row ["value"] []
  F_is_data_row : Fun K "is_data_row" "is_data_row" s_is_data_row Z.a_is_data_row Z.d_is_data_row
  m_is_data_row : mg "is_data_row" = some (.ref Z.a_is_data_row)
  b_is_data_row : Binds K Z.d_is_data_row ["value"] []
  F_is_row_of : Fun K "is_row_of" "is_row_of" s_is_row_of Z.a_is_row_of Z.d_is_row_of
  m_is_row_of : mg "is_row_of" = some (.ref Z.a_is_row_of)
  b_is_row_of : Binds K Z.d_is_row_of ["part", "value"] []
  F_is_closing : Fun K "is_closing" "is_closing" s_is_closing Z.a_is_closing Z.d_is_closing
  m_is_closing : mg "is_closing" = some (.ref Z.a_is_closing)
  b_is_closing : Binds K Z.d_is_closing ["row"] []
  F_word_of : Fun K "_word_of" "_word_of" s_word_of Z.a_word_of Z.d_word_of
  m_word_of : mg "_word_of" = some (.ref Z.a_word_of)
  b_word_of : Binds K Z.d_word_of ["value"] []
  F_fit : Fun K "_fit" "_fit" s_fit Z.a_fit Z.d_fit
  m_fit : mg "_fit" = some (.ref Z.a_fit)
  b_fit : Binds K Z.d_fit ["items", "kinds"] []
  F_fits : Fun K "_fits" "_fits" s_fits Z.a_fits Z.d_fits
  m_fits : mg "_fits" = some (.ref Z.a_fits)
  b_fits : Binds K Z.d_fits ["item", "kind"] []
  F_Piece___init__ : FunD K "__init__" "Piece.__init__" (defArgs s_Piece___init__) (defBody s_Piece___init__) (defScope s_Piece___init__) [] [("alignment", .int 1), ("scope", .str "local"), ("keep", .bl false)] Z.a_Piece___init__ Z.d_Piece___init__
  d_Piece___init___4 : ∃ ds, Vals ([("alignment", .int 1), ("scope", .str "local"), ("keep", .bl false)].map (·.2)) ds ∧ Binds K Z.d_Piece___init__ ["self", "name", "part", "rows", "alignment", "scope", "keep"] ds
  F_is_part : Fun K "is_part" "is_part" s_is_part Z.a_is_part Z.d_is_part
  m_is_part : mg "is_part" = some (.ref Z.a_is_part)
  b_is_part : Binds K Z.d_is_part ["value"] []
  F_is_alignment : Fun K "is_alignment" "is_alignment" s_is_alignment Z.a_is_alignment Z.d_is_alignment
  m_is_alignment : mg "is_alignment" = some (.ref Z.a_is_alignment)
  b_is_alignment : Binds K Z.d_is_alignment ["value"] []
  F_is_scope_of : Fun K "is_scope_of" "is_scope_of" s_is_scope_of Z.a_is_scope_of Z.d_is_scope_of
  m_is_scope_of : mg "is_scope_of" = some (.ref Z.a_is_scope_of)
  b_is_scope_of : Binds K Z.d_is_scope_of ["part", "value"] []
  F_ends_closing : Fun K "ends_closing" "ends_closing" s_ends_closing Z.a_ends_closing Z.d_ends_closing
  m_ends_closing : mg "ends_closing" = some (.ref Z.a_ends_closing)
  b_ends_closing : Binds K Z.d_ends_closing ["part", "rows"] []
  F_check_rows : Fun K "_check_rows" "_check_rows" s_check_rows Z.a_check_rows Z.d_check_rows
  m_check_rows : mg "_check_rows" = some (.ref Z.a_check_rows)
  b_check_rows : Binds K Z.d_check_rows ["part", "rows"] []
  v_e_Object___init___outside : ∀ H : Hp, SqT K H Z.e_Object___init___outside []
  F_Object___init__ : FunD K "__init__" "Object.__init__" (defArgs s_Object___init__) (defBody s_Object___init__) (defScope s_Object___init__) [] [("outside", .ref Z.e_Object___init___outside)] Z.a_Object___init__ Z.d_Object___init__
  M_Object_pieces : Meth K Z.C_Object "pieces" Z.a_Object_pieces
  F_Object_pieces : Fun K "pieces" "Object.pieces" s_Object_pieces Z.a_Object_pieces Z.d_Object_pieces
  b_Object_pieces : Binds K Z.d_Object_pieces ["self"] []
  M_Object_outside : Meth K Z.C_Object "outside" Z.a_Object_outside
  F_Object_outside : Fun K "outside" "Object.outside" s_Object_outside Z.a_Object_outside Z.d_Object_outside
  b_Object_outside : Binds K Z.d_Object_outside ["self"] []
  M_Object_with_piece : Meth K Z.C_Object "with_piece" Z.a_Object_with_piece
  F_Object_with_piece : Fun K "with_piece" "Object.with_piece" s_Object_with_piece Z.a_Object_with_piece Z.d_Object_with_piece
  b_Object_with_piece : Binds K Z.d_Object_with_piece ["self", "piece"] []
  S_Object___contains__ : PySem.W.findIn K (.ref Z.C_Object) "__contains__" = some (some (.ref Z.a_Object___contains__)) ∧ PySem.W.isFn K (.ref Z.a_Object___contains__) = true
  F_Object___contains__ : Fun K "__contains__" "Object.__contains__" s_Object___contains__ Z.a_Object___contains__ Z.d_Object___contains__
  b_Object___contains__ : Binds K Z.d_Object___contains__ ["self", "value"] []
  S_Object___eq__ : PySem.W.findIn K (.ref Z.C_Object) "__eq__" = some (some (.ref Z.a_Object___eq__)) ∧ PySem.W.isFn K (.ref Z.a_Object___eq__) = true
  F_Object___eq__ : Fun K "__eq__" "Object.__eq__" s_Object___eq__ Z.a_Object___eq__ Z.d_Object___eq__
  b_Object___eq__ : Binds K Z.d_Object___eq__ ["self", "other"] []
  S_Object___len__ : PySem.W.findIn K (.ref Z.C_Object) "__len__" = some (some (.ref Z.a_Object___len__)) ∧ PySem.W.isFn K (.ref Z.a_Object___len__) = true
  F_Object___len__ : Fun K "__len__" "Object.__len__" s_Object___len__ Z.a_Object___len__ Z.d_Object___len__
  b_Object___len__ : Binds K Z.d_Object___len__ ["self"] []
  S_Object___repr__ : PySem.W.findIn K (.ref Z.C_Object) "__repr__" = some (some (.ref Z.a_Object___repr__)) ∧ PySem.W.isFn K (.ref Z.a_Object___repr__) = true
  F_Object___repr__ : Fun K "__repr__" "Object.__repr__" s_Object___repr__ Z.a_Object___repr__ Z.d_Object___repr__
  b_Object___repr__ : Binds K Z.d_Object___repr__ ["self"] []
  F_Archive___init__ : Fun K "__init__" "Archive.__init__" s_Archive___init__ Z.a_Archive___init__ Z.d_Archive___init__
  S_Archive___len__ : PySem.W.findIn K (.ref Z.C_Archive) "__len__" = some (some (.ref Z.a_Archive___len__)) ∧ PySem.W.isFn K (.ref Z.a_Archive___len__) = true
  F_Archive___len__ : Fun K "__len__" "Archive.__len__" s_Archive___len__ Z.a_Archive___len__ Z.d_Archive___len__
  b_Archive___len__ : Binds K Z.d_Archive___len__ ["self"] []
  F_wide_object : Fun K "wide_object" "wide_object" s_wide_object Z.a_wide_object Z.d_wide_object
  m_wide_object : mg "wide_object" = some (.ref Z.a_wide_object)
  b_wide_object : Binds K Z.d_wide_object ["name", "pieces", "outside"] []
  k_wide_object_0_outside_pieces_name : KBn K Z.d_wide_object ["name", "pieces", "outside"] 0 ["outside", "pieces", "name"] (fun us ws => [(us ++ ws).getD 2 .none, (us ++ ws).getD 1 .none, (us ++ ws).getD 0 .none]) (fun us ws => [(us ++ ws).getD 2 .non, (us ++ ws).getD 1 .non, (us ++ ws).getD 0 .non])
  F_check_object : Fun K "_check_object" "_check_object" s_check_object Z.a_check_object Z.d_check_object
  m_check_object : mg "_check_object" = some (.ref Z.a_check_object)
  b_check_object : Binds K Z.d_check_object ["name", "pieces", "outside", "is_wide"] []
  F_check_names : Fun K "check_names" "check_names" s_check_names Z.a_check_names Z.d_check_names
  m_check_names : mg "check_names" = some (.ref Z.a_check_names)
  b_check_names : Binds K Z.d_check_names ["parts"] []
  F_check_outside : Fun K "_check_outside" "_check_outside" s_check_outside Z.a_check_outside Z.d_check_outside
  m_check_outside : mg "_check_outside" = some (.ref Z.a_check_outside)
  b_check_outside : Binds K Z.d_check_outside ["outside", "names"] []
  F_names : Fun K "_names" "_names" s_names Z.a_names Z.d_names
  m_names : mg "_names" = some (.ref Z.a_names)
  b_names : Binds K Z.d_names ["parts"] []
  F_law_bag : Fun K "_law_bag" "_law_bag" s_law_bag Z.a_law_bag Z.d_law_bag
  m_law_bag : mg "_law_bag" = some (.ref Z.a_law_bag)
  b_law_bag : Binds K Z.d_law_bag ["_law_script"] []
  F_law_draw : Fun K "_law_draw" "_law_draw" s_law_draw Z.a_law_draw Z.d_law_draw
  m_law_draw : mg "_law_draw" = some (.ref Z.a_law_draw)
  b_law_draw : Binds K Z.d_law_draw ["_law_bag_here", "_law_sides"] []
  F_law_of : Fun K "_law_of" "_law_of" s_law_of Z.a_law_of Z.d_law_of
  m_law_of : mg "_law_of" = some (.ref Z.a_law_of)
  b_law_of : Binds K Z.d_law_of ["_law_bag_here", "_law_things"] []
  F_law_some : Fun K "_law_some" "_law_some" s_law_some Z.a_law_some Z.d_law_some
  m_law_some : mg "_law_some" = some (.ref Z.a_law_some)
  b_law_some : Binds K Z.d_law_some ["_law_bag_here", "_law_things"] []
  F_law_mixed : Fun K "_law_mixed" "_law_mixed" s_law_mixed Z.a_law_mixed Z.d_law_mixed
  m_law_mixed : mg "_law_mixed" = some (.ref Z.a_law_mixed)
  b_law_mixed : Binds K Z.d_law_mixed ["_law_bag_here", "_law_things"] []
  F_law_same : Fun K "_law_same" "_law_same" s_law_same Z.a_law_same Z.d_law_same
  m_law_same : mg "_law_same" = some (.ref Z.a_law_same)
  b_law_same : Binds K Z.d_law_same ["_law_found", "_law_due"] []
  F_law_field : Fun K "_law_field" "_law_field" s_law_field Z.a_law_field Z.d_law_field
  m_law_field : mg "_law_field" = some (.ref Z.a_law_field)
  b_law_field : Binds K Z.d_law_field ["_law_e"] []
  F_law_try : Fun K "_law_try" "_law_try" s_law_try Z.a_law_try Z.d_law_try
  m_law_try : mg "_law_try" = some (.ref Z.a_law_try)
  b_law_try : Binds K Z.d_law_try ["_law_ask"] []
  F_law_why : Fun K "_law_why" "_law_why" s_law_why Z.a_law_why Z.d_law_why
  m_law_why : mg "_law_why" = some (.ref Z.a_law_why)
  b_law_why : Binds K Z.d_law_why ["_law_ask"] []
  F_law_whys : Fun K "_law_whys" "_law_whys" s_law_whys Z.a_law_whys Z.d_law_whys
  m_law_whys : mg "_law_whys" = some (.ref Z.a_law_whys)
  b_law_whys : Binds K Z.d_law_whys ["_law_asks"] []
  F_law_odd : Fun K "_law_odd" "_law_odd" s_law_odd Z.a_law_odd Z.d_law_odd
  m_law_odd : mg "_law_odd" = some (.ref Z.a_law_odd)
  b_law_odd : Binds K Z.d_law_odd ["_law_bag_here", "_law_more"] []
  F_law_titles : Fun K "_law_titles" "_law_titles" s_law_titles Z.a_law_titles Z.d_law_titles
  m_law_titles : mg "_law_titles" = some (.ref Z.a_law_titles)
  b_law_titles : Binds K Z.d_law_titles ["_law_bag_here", "_law_many"] []
  F_law_is_title : Fun K "_law_is_title" "_law_is_title" s_law_is_title Z.a_law_is_title Z.d_law_is_title
  m_law_is_title : mg "_law_is_title" = some (.ref Z.a_law_is_title)
  b_law_is_title : Binds K Z.d_law_is_title ["_law_thing"] []
  F_law_outside_due : Fun K "_law_outside_due" "_law_outside_due" s_law_outside_due Z.a_law_outside_due Z.d_law_outside_due
  m_law_outside_due : mg "_law_outside_due" = some (.ref Z.a_law_outside_due)
  b_law_outside_due : Binds K Z.d_law_outside_due ["_law_lot", "_law_names_y"] []
  F_law_object_due : Fun K "_law_object_due" "_law_object_due" s_law_object_due Z.a_law_object_due Z.d_law_object_due
  m_law_object_due : mg "_law_object_due" = some (.ref Z.a_law_object_due)
  b_law_object_due : Binds K Z.d_law_object_due ["_law_title", "_law_values", "_law_lot"] []
  F_law_archive_due : Fun K "_law_archive_due" "_law_archive_due" s_law_archive_due Z.a_law_archive_due Z.d_law_archive_due
  m_law_archive_due : mg "_law_archive_due" = some (.ref Z.a_law_archive_due)
  b_law_archive_due : Binds K Z.d_law_archive_due ["_law_title", "_law_values"] []
  F_law_small_piece : Fun K "_law_small_piece" "_law_small_piece" s_law_small_piece Z.a_law_small_piece Z.d_law_small_piece
  m_law_small_piece : mg "_law_small_piece" = some (.ref Z.a_law_small_piece)
  b_law_small_piece : Binds K Z.d_law_small_piece ["_law_title"] []
  F_law_full_so : Fun K "_law_full_so" "_law_full_so" s_law_full_so Z.a_law_full_so Z.d_law_full_so
  m_law_full_so : mg "_law_full_so" = some (.ref Z.a_law_full_so)
  b_law_full_so : Binds K Z.d_law_full_so ["_law_pool"] []
  F_law_wide_so : Fun K "_law_wide_so" "_law_wide_so" s_law_wide_so Z.a_law_wide_so Z.d_law_wide_so
  m_law_wide_so : mg "_law_wide_so" = some (.ref Z.a_law_wide_so)
  b_law_wide_so : Binds K Z.d_law_wide_so ["_law_pool", "_law_p"] []
  F_law : Fun K "law" "law" s_law Z.a_law Z.d_law
  m_law : mg "law" = some (.ref Z.a_law)
  b_law : Binds K Z.d_law ["_law_script"] []
  cl_Piece : Cls K Z.C_Piece
  m_Piece : mg "Piece" = some (.ref Z.C_Piece)
  mk_Piece : Mk K Z.C_Piece Z.a_Piece___init__
  n_Piece_name : NoAttr K Z.C_Piece "name"
  n_Piece_part : NoAttr K Z.C_Piece "part"
  n_Piece_alignment : NoAttr K Z.C_Piece "alignment"
  n_Piece_scope : NoAttr K Z.C_Piece "scope"
  n_Piece_keep : NoAttr K Z.C_Piece "keep"
  n_Piece__rows : NoAttr K Z.C_Piece "_rows"
  i_Piece : IsK K Z.C_Piece
  cl_Object : Cls K Z.C_Object
  m_Object : mg "Object" = some (.ref Z.C_Object)
  mk_Object : Mk K Z.C_Object Z.a_Object___init__
  n_Object_name : NoAttr K Z.C_Object "name"
  n_Object__pieces : NoAttr K Z.C_Object "_pieces"
  n_Object__foreign : NoAttr K Z.C_Object "_foreign"
  i_Object : IsK K Z.C_Object
  cl_Archive : Cls K Z.C_Archive
  m_Archive : mg "Archive" = some (.ref Z.C_Archive)
  mk_Archive : Mk K Z.C_Archive Z.a_Archive___init__
  n_Archive_name : NoAttr K Z.C_Archive "name"
  n_Archive__members : NoAttr K Z.C_Archive "_members"
  i_Archive : IsK K Z.C_Archive
  x_Object_Piece : PySem.W.kitOne K (.ref Z.C_Object) (.ref Z.C_Piece) = some false
  x_Archive_Piece : PySem.W.kitOne K (.ref Z.C_Archive) (.ref Z.C_Piece) = some false
  x_Piece_Object : PySem.W.kitOne K (.ref Z.C_Piece) (.ref Z.C_Object) = some false
  x_Archive_Object : PySem.W.kitOne K (.ref Z.C_Archive) (.ref Z.C_Object) = some false
  x_Piece_Archive : PySem.W.kitOne K (.ref Z.C_Piece) (.ref Z.C_Archive) = some false
  x_Object_Archive : PySem.W.kitOne K (.ref Z.C_Object) (.ref Z.C_Archive) = some false
  n_abs : mg "abs" = none
  n_all : mg "all" = none
  n_bool : mg "bool" = none
  n_enumerate : mg "enumerate" = none
  n_int : mg "int" = none
  n_isinstance : mg "isinstance" = none
  n_len : mg "len" = none
  n_list : mg "list" = none
  n_range : mg "range" = none
  n_repr : mg "repr" = none
  n_str : mg "str" = none
  n_tuple : mg "tuple" = none
  n_zip : mg "zip" = none
  g_MOST_LETTERS : ∃ t, mg "MOST_LETTERS" = some (.int 6 t)
  g_REGISTERS : mg "REGISTERS" = some (.ref Z.c_REGISTERS)
  v_REGISTERS : ∀ H : Hp, SqT K H Z.c_REGISTERS [.str "r0", .str "r1", .str "r2"]
  L_REGISTERS : ∃ o, K.lookup Z.c_REGISTERS = some o ∧ o.cls = .type "tuple" ∧ o.dict = none
  g_CODE_ROWS : mg "CODE_ROWS" = some (.ref Z.c_CODE_ROWS)
  g_DATA_ROWS : mg "DATA_ROWS" = some (.ref Z.c_DATA_ROWS)
  g_BOUNDS : mg "BOUNDS" = some (.ref Z.c_BOUNDS)
  g_CLOSING : mg "CLOSING" = some (.ref Z.c_CLOSING)
  v_CLOSING : ∀ H : Hp, SqT K H Z.c_CLOSING [.str "jump", .str "halt", .str "back"]
  L_CLOSING : ∃ o, K.lookup Z.c_CLOSING = some o ∧ o.cls = .type "tuple" ∧ o.dict = none
  g_PARTS : mg "PARTS" = some (.ref Z.c_PARTS)
  v_PARTS : ∀ H : Hp, SqT K H Z.c_PARTS [.str "code", .str "data"]
  L_PARTS : ∃ o, K.lookup Z.c_PARTS = some o ∧ o.cls = .type "tuple" ∧ o.dict = none
  g_ALIGNMENTS : mg "ALIGNMENTS" = some (.ref Z.c_ALIGNMENTS)
  v_ALIGNMENTS : ∀ H : Hp, SqT K H Z.c_ALIGNMENTS [.int 1, .int 2, .int 4, .int 8, .int 16]
  L_ALIGNMENTS : ∃ o, K.lookup Z.c_ALIGNMENTS = some o ∧ o.cls = .type "tuple" ∧ o.dict = none
  g_SCOPES : mg "SCOPES" = some (.ref Z.c_SCOPES)
  v_SCOPES : ∀ H : Hp, SqT K H Z.c_SCOPES [.str "local", .str "export", .str "open", .str "weak"]
  L_SCOPES : ∃ o, K.lookup Z.c_SCOPES = some o ∧ o.cls = .type "tuple" ∧ o.dict = none
  g_MOST_ROWS : ∃ t, mg "MOST_ROWS" = some (.int 16 t)
  g_MOST_PIECES : ∃ t, mg "MOST_PIECES" = some (.int 8 t)
  g_MOST_OUTSIDE : ∃ t, mg "MOST_OUTSIDE" = some (.int 8 t)
  g_MOST_MEMBERS : ∃ t, mg "MOST_MEMBERS" = some (.int 4 t)
  D_CODE_ROWS : KDict K w Z.c_CODE_ROWS Z.e_CODE_ROWS Z.z_CODE_ROWS
  x_CODE_ROWS : ∀ z : Str, ∃ r, PySem.W.nsIn K Z.c_CODE_ROWS z = some r ∧ RelOpt (RelTu K) (findT tb_CODE_ROWS z) r
  D_DATA_ROWS : KDict K w Z.c_DATA_ROWS Z.e_DATA_ROWS Z.z_DATA_ROWS
  x_DATA_ROWS : ∀ z : Str, ∃ r, PySem.W.nsIn K Z.c_DATA_ROWS z = some r ∧ RelOpt (RelTu K) (findT tb_DATA_ROWS z) r
  D_BOUNDS : KDict K w Z.c_BOUNDS Z.e_BOUNDS Z.z_BOUNDS
  x_BOUNDS : ∀ z : Str, ∃ r, PySem.W.nsIn K Z.c_BOUNDS z = some r ∧ RelOpt (RelTu K) (findT tb_BOUNDS z) r
abbrev s_E_InvalidName : Stmt := inClass (top 4) 0
abbrev s_E_InvalidPart : Stmt := inClass (top 5) 0
abbrev s_E_InvalidAlignment : Stmt := inClass (top 6) 0
abbrev s_E_InvalidScope : Stmt := inClass (top 7) 0
abbrev s_E_InvalidRow : Stmt := inClass (top 8) 0
abbrev s_E_NotClosing : Stmt := inClass (top 9) 0
abbrev s_E_InvalidPiece : Stmt := inClass (top 10) 0
abbrev s_E_InvalidOutside : Stmt := inClass (top 11) 0
abbrev s_E_InvalidMember : Stmt := inClass (top 12) 0
abbrev s_E_DuplicateName : Stmt := inClass (top 13) 0
abbrev s_E_TooMany : Stmt := inClass (top 14) 0

section
variable {X : Cx} {CX : CXT} {k : Nat} {f : Addr} {fd : FuncData} {ps ks : List Str} {sp : Sp} {E : XK} {x : Str} {p pos : Pos} {kws : List Keyword} {tk : TA} {g : List Value → List Value → List Value} {gV : List V → List V → List V}
/-- f(k = v, ..), no value by place -/
theorem pe_callN0 (F : FnOk X.prog X.w X.K X.mg X.base CX k f fd ps sp) (hr : Room k X.A) (hg : Gl X x) (hm : X.mg x = some (.ref f)) (hk : PySem.W.keepIn X.K (.ref f) = true) (hb : KBn X.K fd ps 0 ks g gV) (hx : Passes CX X E) (hkw : PK X kws tk)
    (hall : (backToKw pos (keywordEach kws X.env)).all (·.1.isSome) = true := by rfl) (hks : (backToKw pos (keywordEach kws X.env)).filterMap (·.1) = ks := by rfl) (hdb : (x == ("__debug__" : Str)) = false := by decide)
    (hpl : ((backTo pos (starEach [] X.env)).any (·.1) || (backToKw pos (keywordEach kws X.env)).any (·.1.isNone)) = false := by rfl) :
    PE X (.Call (.Name x p) [] kws pos) (tCallN 0 ks.length sp gV E tNil tk) := by
  refine ⟨fun pins s σ H Q I h => ?_⟩
  refine wpAny_Call_Name_kw (ld_glob I hg hm ?_ hdb)
  refine PySem.W.callWith_KW0 (h₀ := X.base) I.ok.mod.kin hk hall ?_ hpl
  refine thn (hkw.run pos pins s σ H _ I h) fun ws s2 ⟨zs, H2, I2, rz, l1, l2, q2⟩ => ⟨I2.kIn, ?_⟩
  rw [hks]
  exact run_fnN (us := []) (vs := []) F hr hb hx I2 .nil rz rfl l2 q2
end
theorem getD_rel : ∀ {vs : List V} {us : List Value} (h : Vals vs us) (i : Nat), RelV (vs.getD i .non) (us.getD i .none)
  | _, _, .nil, _ => rfl
  | _, _, .cons r _, 0 => r
  | _, _, .cons _ t, i + 1 => getD_rel t i
theorem lenL3 {α : Type} {l : List α} (h : l.length = 3) : ∃ a b c, l = [a, b, c] := by
  obtain ⟨a, l, rfl⟩ := List.exists_cons_of_length_eq_add_one h
  obtain ⟨b, l, rfl⟩ := List.exists_cons_of_length_eq_add_one (Nat.succ.inj h)
  obtain ⟨c, l, rfl⟩ := List.exists_cons_of_length_eq_add_one (Nat.succ.inj (Nat.succ.inj h))
  cases l with
  | nil => exact ⟨a, b, c, rfl⟩
  | cons d l => cases h
theorem lenL4 {α : Type} {l : List α} (h : l.length = 4) : ∃ a b c d, l = [a, b, c, d] := by
  obtain ⟨a, l, rfl⟩ := List.exists_cons_of_length_eq_add_one h
  obtain ⟨b, c, d, rfl⟩ := lenL3 (Nat.succ.inj h)
  exact ⟨a, b, c, d, rfl⟩
theorem kbn_d_Piece___init___4 {K : PySem.W.Frag} {f : Addr} {fd : FuncData} (F : FunD K "__init__" "Piece.__init__" (defArgs s_Piece___init__) (defBody s_Piece___init__) (defScope s_Piece___init__) [] [("alignment", .int 1), ("scope", .str "local"), ("keep", .bl false)] f fd) : ∃ ds, Vals ([("alignment", .int 1), ("scope", .str "local"), ("keep", .bl false)].map (·.2)) ds ∧ Binds K fd ["self", "name", "part", "rows", "alignment", "scope", "keep"] ds :=
  F.binds0 (ps := ["self", "name", "part", "rows", "alignment", "scope", "keep"]) 4 (fun z => nomatch z) rfl fun D doc pm an cdv ct us its l1 l2 => by
    obtain ⟨a, b, c, d, rfl⟩ := lenL4 l1
    obtain ⟨x, y, z, rfl⟩ := lenL3 l2
    exact ⟨_, _, _, _, _, _, rfl, rfl, ⟨_, _, _, _, _, _, rfl, rfl, ⟨_, _, _, _, _, _, rfl, rfl, rfl⟩⟩⟩
theorem kbn_k_wide_object_0_outside_pieces_name {K : PySem.W.Frag} {f : Addr} {fd : FuncData} (F : Fun K "wide_object" "wide_object" s_wide_object f fd) : KBn K fd ["name", "pieces", "outside"] 0 ["outside", "pieces", "name"] (fun us ws => [(us ++ ws).getD 2 .none, (us ++ ws).getD 1 .none, (us ++ ws).getD 0 .none]) (fun us ws => [(us ++ ws).getD 2 .non, (us ++ ws).getD 1 .non, (us ++ ws).getD 0 .non]) := by
  obtain ⟨oc, od, kV, doc, pm, an, cdv, ct, osl, rfl, lk, hcd⟩ := F.ex
  refine ⟨fun s us ws _ l1 l2 => ?_, fun r1 r2 => .cons (getD_rel (r1.append r2) 2) (.cons (getD_rel (r1.append r2) 1) (.cons (getD_rel (r1.append r2) 0) (.nil)))⟩
  obtain rfl := List.eq_nil_of_length_eq_zero l1
  obtain ⟨x, y, z, rfl⟩ := lenL3 l2
  exact .of_eq rfl

/-! ### readings answered construct by construct -/
namespace Go
section
variable {K : PySem.W.Frag} {σ σ' : L2.St} {H : Hp} {Q : VK} {N : L2.St → Hp → Prop} {R : VK} {B C : L2.St → Hp → Prop} {E : XK}
theorem var {i : Nat} {v : V} (h : σ[i]? = some (some v)) (q : Q v H) : tVar i σ H Q := ⟨v, h, q⟩
theorem cst {v : V} (q : Q v H) : tC v σ H Q := q
theorem op {r : R2} {ta tb : TE} (q : ta σ H fun x H1 => tb σ H1 fun y H2 => r x y H2 Q) : tOp r ta tb σ H Q := q
theorem un {r : V → Hp → VK → Prop} {ta : TE} (q : ta σ H fun x H1 => r x H1 Q) : tUn r ta σ H Q := q
theorem cb {r : List V → Hp → VK → Prop} {t : TA} (q : t σ H fun vs H1 => r vs H1 Q) : tCB r t σ H Q := q
theorem nil {Q : List V → Hp → Prop} (q : Q [] H) : tNil σ H Q := q
theorem cons {ta : TE} {tr : TA} {Q : List V → Hp → Prop} (q : ta σ H fun x H1 => tr σ H1 fun xs H2 => Q (x :: xs) H2) : tCons ta tr σ H Q := q
theorem call {sp : Sp} {t : TA} (q : t σ H fun vs H1 => sp vs H1 Q E) : tCall sp [] E t σ H Q := by
  unfold tCall
  simpa only [List.append_nil] using q
/-- both ways of a test -/
def Way (b : Bool) (x y : Prop) : Prop := (b = true → x) ∧ (b = false → y)
theorem way_if {b : Bool} {x y : Prop} : (if b = true then x else y) = Way b x y := by
  cases b <;> simp [Way]
theorem wT {x y : Prop} (h : x) : Way true x y := ⟨fun _ => h, fun e => nomatch e⟩
theorem wF {x y : Prop} (h : y) : Way false x y := ⟨(fun e => nomatch e), fun _ => h⟩
theorem wd {p : Prop} {d : Decidable p} {x y : Prop} (h : p → x) (k : ¬ p → y) : Way (@decide p d) x y := ⟨fun e => h (of_decide_eq_true e), fun e => k (of_decide_eq_false e)⟩
theorem wn {b : Bool} {x y : Prop} (h : Way b y x) : Way (!b) x y := by
  cases b
  · exact ⟨fun _ => h.2 rfl, fun e => nomatch e⟩
  · exact ⟨(fun e => nomatch e), fun _ => h.1 rfl⟩
theorem wayT {b : Bool} {x y : Prop} (e : b = true) (h : x) : Way b x y := by
  subst e
  exact wT h
theorem wayF {b : Bool} {x y : Prop} (e : b = false) (h : y) : Way b x y := by
  subst e
  exact wF h
theorem bE {b c : Bool} {Q : VK} {H : Hp} (e : b = c) (h : Q (.bl c) H) : Q (.bl b) H := e ▸ h
theorem wb {b : Bool} {x y : Prop} (h : b = true → x) (k : b = false → y) : Way b x y := ⟨h, k⟩
def IsBl (x : V) (p : Bool → Prop) : Prop := ∃ k, x = .bl k ∧ p k
theorem isBl {b : Bool} {p : Bool → Prop} (h : p b) : IsBl (.bl b) p := ⟨b, rfl, h⟩
theorem test {te : TE} {Q : Bool → Hp → Prop} (q : te σ H fun x H1 => IsBl x fun k => Q k H1) : tTest te σ H Q := q
theorem tb {te : TE} {Q : Bool → Hp → Prop} (q : te σ H fun x H1 => IsBl x fun k => Q k H1) : tB te σ H Q := q
theorem and {t u : TT} {Q : Bool → Hp → Prop} (q : t σ H fun c H1 => Way c (u σ H1 Q) (Q false H1)) : tAnd t u σ H Q := by
  unfold tAnd
  simpa only [way_if] using q
theorem or {t u : TT} {Q : Bool → Hp → Prop} (q : t σ H fun c H1 => Way c (Q true H1) (u σ H1 Q)) : tOr t u σ H Q := by
  unfold tOr
  simpa only [way_if] using q
theorem not {t : TT} {Q : Bool → Hp → Prop} (q : t σ H fun c H1 => Q (!c) H1) : tNot t σ H Q := q
theorem andV {ta tb : TE} (q : ta σ H fun x H1 => IsBl x fun c => Way c (tb σ H1 Q) (Q (.bl false) H1)) : tAndV ta tb σ H Q := by
  unfold tAndV
  simp only [way_if]
  exact q
theorem orV {ta tb : TE} (q : ta σ H fun x H1 => IsBl x fun c => Way c (Q (.bl true) H1) (tb σ H1 Q)) : tOrV ta tb σ H Q := by
  unfold tOrV
  simp only [way_if]
  exact q
theorem ife {t : TT} {ta tb : TE} (q : t σ H fun c H1 => Way c (ta σ H1 Q) (tb σ H1 Q)) : tIf t ta tb σ H Q := by
  unfold tIf
  simpa only [way_if] using q
theorem isN {ta : TE} (q : ta σ H fun x H1 => Q (.bl (decide (x = .non))) H1) : tIsN ta σ H Q := q
/-! statements -/
theorem next (q : N σ H) : tNext ⟨N, R, B, C⟩ σ H := q
theorem seq {t u : TS} (q : t ⟨u ⟨N, R, B, C⟩, R, B, C⟩ σ H) : tSeq t u ⟨N, R, B, C⟩ σ H := q
theorem drop {te : TE} (q : te σ H fun _ H1 => N σ H1) : tDrop te ⟨N, R, B, C⟩ σ H := q
theorem ret {te : TE} (q : te σ H R) : tRet te ⟨N, R, B, C⟩ σ H := q
theorem ifS {c : TT} {t u : TS} {D : Ends} (q : c σ H fun b H1 => Way b (t D σ H1) (u D σ H1)) : tIfS c t u D σ H := by
  unfold tIfS
  simpa only [way_if] using q
theorem asg {te : TE} {g : TG} (q : te σ H fun x H1 => g x σ H1 N) : tAsg te g ⟨N, R, B, C⟩ σ H := q
theorem name {i : Nat} {v : V} {Q : L2.St → Hp → Prop} (h : σ.set i (some v) = σ') (q : Q σ' H) : gName i v σ H Q := by
  subst h
  exact q
theorem sub {to ti : TE} {t : TSet} {v : V} {Q : L2.St → Hp → Prop} (q : to σ H fun o H1 => ti σ H1 fun i H2 => t o i v H2 fun H3 => Q σ H3) : gSub to ti t v σ H Q := q
theorem gtup {n : Nat} {t : TGs} {a : Addr} {xs : List V} {Q : L2.St → Hp → Prop} (h : SqT K H a xs) (l : xs.length = n) (q : t xs σ H Q) : gTup K n t (.ref a) σ H Q := ⟨a, xs, rfl, h, l, q⟩
theorem gnil {Q : L2.St → Hp → Prop} (q : Q σ H) : gNil [] σ H Q := ⟨rfl, q⟩
theorem gcons {t : TG} {u : TGs} {v : V} {r : List V} {Q : L2.St → Hp → Prop} (q : t v σ H fun σ1 H1 => u r σ1 H1 Q) : gCons t u (v :: r) σ H Q := ⟨v, r, rfl, q⟩
def Two (σ : L2.St) (i j : Nat) (vs : List V) (k : L2.St → Prop) : Prop := ∃ v w, vs = [v, w] ∧ k ((σ.set i (some v)).set j (some w))
theorem par {i j : Nat} {ta : TA} (q : ta σ H fun vs H1 => Two σ i j vs fun σ1 => N σ1 H1) : tPar i j ta ⟨N, R, B, C⟩ σ H := q
theorem par2 {i j : Nat} {v w : V} {k : L2.St → Prop} (h : (σ.set i (some v)).set j (some w) = σ') (q : k σ') : Two σ i j [v, w] k := by
  subst h
  exact ⟨v, w, rfl, q⟩
def Three (σ : L2.St) (i j l : Nat) (vs : List V) (k : L2.St → Prop) : Prop := ∃ u v w, vs = [u, v, w] ∧ k (((σ.set i (some u)).set j (some v)).set l (some w))
/-! operators -/
theorem i0 {g : Int → Int → V} {i j : Int} (q : Q (g i j) H) : rI0 g (.int i) (.int j) H Q := ⟨i, j, rfl, rfl, q⟩
theorem i1 {c : Int → Int → Prop} {g : Int → Int → V} {i j : Int} (h : c i j) (q : Q (g i j) H) : rI c g (.int i) (.int j) H Q := ⟨i, j, rfl, rfl, h, q⟩
theorem u1 {g : Int → V} {i : Int} (q : Q (g i) H) : rU g (.int i) H Q := ⟨i, rfl, q⟩
theorem eqI {i j : Int} (q : Q (.bl (decide (i = j))) H) : rEq (.int i) (.int j) H Q := by
  refine ⟨rfl, ?_⟩
  have e : decide (V.int i = V.int j) = decide (i = j) := by rw [Bool.eq_iff_iff]; simp
  rw [e]
  exact q
theorem eqS {i j : Str} (q : Q (.bl (decide (i = j))) H) : rEq (.str i) (.str j) H Q := by
  refine ⟨rfl, ?_⟩
  have e : decide (V.str i = V.str j) = decide (i = j) := by rw [Bool.eq_iff_iff]; simp
  rw [e]
  exact q
theorem neS {i j : Str} (q : Q (.bl (!decide (i = j))) H) : rNe (.str i) (.str j) H Q := by
  refine ⟨rfl, ?_⟩
  have e : decide (V.str i = V.str j) = decide (i = j) := by rw [Bool.eq_iff_iff]; simp
  rw [e]
  exact q
theorem eqB {i j : Bool} (q : Q (.bl (decide (i = j))) H) : rEq (.bl i) (.bl j) H Q := by
  refine ⟨rfl, ?_⟩
  have e : decide (V.bl i = V.bl j) = decide (i = j) := by rw [Bool.eq_iff_iff]; simp
  rw [e]
  exact q
theorem neB {i j : Bool} (q : Q (.bl (!decide (i = j))) H) : rNe (.bl i) (.bl j) H Q := by
  refine ⟨rfl, ?_⟩
  have e : decide (V.bl i = V.bl j) = decide (i = j) := by rw [Bool.eq_iff_iff]; simp
  rw [e]
  exact q
theorem ixL {p : Addr} {xs : List V} {i : Int} {v : V} (h : SqL K H p xs) (g : atI xs i = some v) (q : Q v H) : rIxL K (.ref p) (.int i) H Q := ⟨p, xs, i, v, rfl, rfl, h, g, q⟩
theorem ixT {p : Addr} {xs : List V} {i : Int} {v : V} (h : SqT K H p xs) (g : atI xs i = some v) (q : Q v H) : rIxT K (.ref p) (.int i) H Q := ⟨p, xs, i, v, rfl, rfl, h, g, q⟩
/-! what is made and what is written -/
/-- all that was tracked, what stands at p apart, is as it was -/
def But (p : Addr) (H H1 : Hp) : Prop := ∀ a o, a ≠ p → H a = some o → H1 a = some o
theorem Sn {p : Addr} {o : HO} (h : H p = none) : Same H (upd H p o) := fun a u e => by rw [upd_ne (ne_of_none e h)]; exact e
def New (o : HO) (H1 : Hp) (k : Addr → Hp → Prop) : Prop := ∀ p, H1 p = none → k p (upd H1 p o)
theorem new {o : HO} {H1 : Hp} {k : Addr → Hp → Prop} (q : ∀ p H2, H1 p = none → Same H1 H2 → H2 p = some o → k p H2) : New o H1 k := fun p h => q p _ h (Sn h) upd_same
def Wr (p : Addr) (o : HO) (H1 : Hp) (k : Hp → Prop) : Prop := k (upd H1 p o)
theorem wr {p : Addr} {o : HO} {H1 : Hp} {k : Hp → Prop} (q : ∀ H2, But p H1 H2 → H2 p = some o → k H2) : Wr p o H1 k := q _ (fun a u n h => by rw [upd_ne n]; exact h) upd_same
theorem lst {t : TA} (q : t σ H fun xs H1 => xs.length ≤ sizeLine ∧ New (.lst xs) H1 fun p H2 => Q (.ref p) H2) : tLst t σ H Q := q
theorem tup {t : TA} (q : t σ H fun xs H1 => xs.length ≤ sizeLine ∧ New (.tup xs) H1 fun p H2 => Q (.ref p) H2) : tTup t σ H Q := q
theorem setL {p : Addr} {xs ys : List V} {k : Int} {j : Nat} {v : V} {Q : Hp → Prop} (h : H p = some (.lst xs)) (g : ixN xs.length k = some j) (e : xs.set j v = ys) (q : Wr p (.lst ys) H Q) : rSetL (.ref p) (.int k) v H Q := by
  subst e
  exact ⟨p, xs, k, j, rfl, rfl, h, g, q⟩
theorem slL {a : Addr} {xs ys : List V} {lo hi : Option Int} (h : SqL K H a xs) (e : cutV xs lo hi = ys) (q : New (.lst ys) H fun p H1 => Q (.ref p) H1) : rSlL K (.ref a) lo hi H Q := by
  subst e
  exact ⟨a, xs, rfl, h, q⟩
theorem sl {r : V → Option Int → Option Int → Hp → VK → Prop} {te : TE} {tl th : TO} (q : te σ H fun x H1 => tl σ H1 fun l H2 => th σ H2 fun u H3 => r x l u H3 Q) : tSl r te tl th σ H Q := q
theorem noPart {Q : Option Int → Hp → Prop} (q : Q none H) : tNoPart σ H Q := q
def IsI (x : V) (p : Int → Prop) : Prop := ∃ i, x = .int i ∧ p i
theorem isI {i : Int} {p : Int → Prop} (h : p i) : IsI (.int i) p := ⟨i, rfl, h⟩
theorem part {t : TE} {Q : Option Int → Hp → Prop} (q : t σ H fun x H1 => IsI x fun i => Q (some i) H1) : tPart t σ H Q := q
theorem app {p : Addr} {xs ys : List V} {y : V} (h : H p = some (.lst xs)) (l : xs.length < sizeLine) (e : xs ++ [y] = ys) (q : Wr p (.lst ys) H fun H1 => Q .non H1) : rAppend (.ref p) [y] H Q := by
  subst e
  exact ⟨p, xs, y, rfl, rfl, h, l, q⟩
theorem bm {T : String} {r : V → List V → Hp → VK → Prop} {to : TE} {t : TA} (q : to σ H fun x H1 => tyV K T x H1 ∧ t σ H1 fun xs H2 => r x xs H2 Q) : tBM K T r to t σ H Q := q
/-! built-in functions, their readings named -/
def RLen (K : PySem.W.Frag) : List V → Hp → VK → Prop := fun xs H Q => ∃ x n, xs = [x] ∧ LenV K x H n ∧ Q (.int n) H
theorem lenL {a : Addr} {xs : List V} (h : SqL K H a xs) (q : Q (.int (xs.length : Nat)) H) : RLen K [.ref a] H Q := ⟨.ref a, xs.length, rfl, .inl ⟨_, h, rfl⟩, q⟩
theorem lenT {a : Addr} {xs : List V} (h : SqT K H a xs) (q : Q (.int (xs.length : Nat)) H) : RLen K [.ref a] H Q := ⟨.ref a, xs.length, rfl, .inr ⟨_, h, rfl⟩, q⟩
def RInt : List V → Hp → VK → Prop := fun xs H Q => (∃ i, xs = [V.int i] ∧ Q (V.int i) H) ∨ ∃ k, xs = [V.bl k] ∧ Q (V.int (if k = true then 1 else 0)) H
theorem intI {i : Int} (q : Q (.int i) H) : RInt [.int i] H Q := .inl ⟨i, rfl, q⟩
def RAbs : List V → Hp → VK → Prop := fun xs H Q => ∃ i, xs = [V.int i] ∧ Q (V.int (if i < 0 then -i else i)) H
theorem absI {i : Int} (q : ∀ j : Int, 0 ≤ j → (j = i ∨ j = -i) → Q (.int j) H) : RAbs [.int i] H Q := ⟨i, rfl, q _ (by split <;> omega) (by split <;> omega)⟩
def RList (K : PySem.W.Frag) : List V → Hp → VK → Prop := fun xs H Q => ∃ p ys, xs = [.ref p] ∧ (SqL K H p ys ∨ SqT K H p ys) ∧ New (.lst ys) H fun l H1 => Q (.ref l) H1
theorem listL {a : Addr} {xs : List V} (h : SqL K H a xs) (q : New (.lst xs) H fun l H1 => Q (.ref l) H1) : RList K [.ref a] H Q := ⟨a, xs, rfl, .inl h, q⟩
theorem isi {x c : V} {t u : Value} {b : Bool} (h1 : ClsV c u) (h2 : TyX K H x t) (h3 : PySem.W.kitOne K t u = some b) (q : Q (.bl b) H) : rIsi K [x, c] H Q := ⟨x, c, t, u, b, rfl, h1, h2, h3, q⟩
end
theorem c_len {X : Cx} : CallR X (.builtin "len") (RLen X.K) := call_len
theorem c_list {X : Cx} : CallR X (.type "list") (RList X.K) := call_list_of
theorem c_abs {X : Cx} : CallR X (.builtin "abs") RAbs := call_abs
theorem c_int {X : Cx} : CallR X (.type "int") RInt := call_int1
theorem cut {t u : TS} {σ : L2.St} {H : Hp} {N : L2.St → Hp → Prop} {R : VK} {B C : L2.St → Hp → Prop} (M : L2.St → Hp → Prop) (q : t ⟨M, R, B, C⟩ σ H) (k : ∀ σ1 H1, M σ1 H1 → u ⟨N, R, B, C⟩ σ1 H1) : C8.tCut t u ⟨N, R, B, C⟩ σ H := ⟨M, q, k⟩
section
variable {K : PySem.W.Frag} {H H1 H2 : Hp} {a b p q : Addr} {o : HO} {xs : List V}
theorem But.refl : But b H H := fun _ _ _ h => h
theorem But.trans (x : But b H H1) (y : But b H1 H2) : But b H H2 := fun a o n h => y a o n (x a o n h)
theorem sb (x : Same H H1) : But b H H1 := fun a o _ h => x a o h
/-- what was made behind H is changed: nothing for H -/
theorem But.own (x : But b H H1) (n : H q = none) (y : But q H1 H2) : But b H H2 := fun a o ne h => y a o (ne_of_none h n) (x a o ne h)
theorem Same.own (x : Same H H1) (n : H q = none) (y : But q H1 H2) : Same H H2 := fun a o h => y a o (ne_of_none h n) (x a o h)
theorem freeS (s : Same H H1) (h : H1 q = none) : H q = none := by
  cases e : H q with
  | none => rfl
  | some o =>
    rw [s q o e] at h
    cases h
theorem freeB (s : But b H H1) (n : q ≠ b) (h : H1 q = none) : H q = none := by
  cases e : H q with
  | none => rfl
  | some o =>
    rw [s q o n e] at h
    cases h
theorem oS (s : Same H H1) (h : H p = some o) : H1 p = some o := s _ _ h
theorem oB (s : But b H H1) (n : p ≠ b) (h : H p = some o) : H1 p = some o := s _ _ n h
theorem lS (s : Same H H1) (h : SqL K H a xs) : SqL K H1 a xs := s.seq h
theorem lB (s : But b H H1) (n : a ≠ b) (h : SqL K H a xs) : SqL K H1 a xs := by
  rcases h with (h | ⟨o, h⟩) | h
  · exact .inl (.inl (s _ _ n h))
  · exact .inl (.inr ⟨o, s _ _ n h⟩)
  · exact .inr h
theorem tS (s : Same H H1) (h : SqT K H a xs) : SqT K H1 a xs := by
  rcases h with (h | ⟨o, h⟩) | h
  · exact .inl (.inl (s _ _ h))
  · exact .inl (.inr ⟨o, s _ _ h⟩)
  · exact .inr h
theorem tB (s : But b H H1) (n : a ≠ b) (h : SqT K H a xs) : SqT K H1 a xs := by
  rcases h with (h | ⟨o, h⟩) | h
  · exact .inl (.inl (s _ _ n h))
  · exact .inl (.inr ⟨o, s _ _ n h⟩)
  · exact .inr h
end
/-! ### walks -/
def ForG (J : It) (g : TG) (tb : TS) : TS := fun D σ H => ∃ W : Nat → Nat → L2.St → Hp → Prop, (∃ m, W 0 m σ H) ∧ ∀ i m σ H, W i m σ H →
  (J.stop i H ∧ D.nx σ H) ∨ (J.go i H ∧ ∃ N : L2.St → Hp → Prop, (∀ σ' H', N σ' H' → ∃ m', m' < m ∧ W (i + 1) m' σ' H') ∧ ∀ x H', J.yld i H x H' → g x σ H' fun σ2 H2 => tb { D with nx := N, ct := N, bk := D.nx } σ2 H2)
def LcG (J : It) (g : TG) (tt : TT) (te : TE) (vs : List Nat) : L2.St → Hp → VK → Prop := fun σ H1 Q => ∀ D, H1 D = none → ∃ W : Nat → Nat → Hp → Prop, (∃ m, W 0 m (upd H1 D (.lst []))) ∧ ∀ i m H, W i m H →
  (J.stop i H ∧ Q (.ref D) H) ∨ (J.go i H ∧ ∃ Nx : Hp → Prop, (∀ H', Nx H' → ∃ m', m' < m ∧ W (i + 1) m' H') ∧ ∀ x H', J.yld i H x H' → g x (wipe σ vs) H' fun σ2 H2 => wipe σ2 vs = wipe σ vs ∧ tt σ2 H2 fun b H3 =>
    if b = true then te σ2 H3 fun y H4 => ∃ acc, H4 D = some (.lst acc) ∧ acc.length < sizeLine ∧ Nx (upd H4 D (.lst (acc ++ [y]))) else Nx H3)
def LcEnd (D : Addr) (I : Hp → Prop) (y : V) (H4 : Hp) : Prop := ∃ acc, H4 D = some (.lst acc) ∧ acc.length < sizeLine ∧ I (upd H4 D (.lst (acc ++ [y])))
section
variable {K : PySem.W.Frag} {σ : L2.St} {H H1 : Hp} {Q : VK} {N : L2.St → Hp → Prop} {R : VK} {B C : L2.St → Hp → Prop} {J : It} {n : Nat} {G : Hp → Prop} {Y : Nat → Hp → V → Hp → Prop} {g : TG} {tb : TS} {tt : TT} {te : TE} {vs : List Nat} {a : Addr} {xs ys : List V}
theorem forr {wi : TI} {D : Ends} (q : wi σ H fun J H1 => ForG J g tb D σ H1) : tFor wi g tb D σ H := q
theorem for_w (w : Walk J n G Y) (I : Nat → L2.St → Hp → Prop) (h0 : I 0 σ H) (hG : ∀ i σ1 H1, i ≤ n → I i σ1 H1 → G H1)
    (hs : ∀ i x σ1 H1 H2, i < n → I i σ1 H1 → Y i H1 x H2 → g x σ1 H2 fun σ2 H3 => tb ⟨I (i + 1), R, N, I (i + 1)⟩ σ2 H3) (hd : ∀ σ1 H1, I n σ1 H1 → N σ1 H1) : ForG J g tb ⟨N, R, B, C⟩ σ H :=
  for_it w (D := ⟨N, R, B, C⟩) I h0 hG (fun i x σ1 H1 H2 hi h y => hs i x σ1 H1 H2 hi h y) hd
theorem lc {wi : TI} (q : wi σ H fun J H1 => LcG J g tt te vs σ H1 Q) : tLc wi g tt te vs σ H Q := q
theorem yes {Q : Bool → Hp → Prop} (q : Q true H) : tYes σ H Q := q
theorem lcEnd {D : Addr} {I : Hp → Prop} {y : V} {acc : List V} (h : H D = some (.lst acc)) (l : acc.length < sizeLine) (q : ∀ H2, But D H H2 → H2 D = some (.lst (acc ++ [y])) → I H2) : LcEnd D I y H := ⟨acc, h, l, q _ (fun a o n e => by rw [upd_ne n]; exact e) upd_same⟩
theorem lc_w {σ0 : L2.St} (w : Walk J n G Y) (I : Addr → Nat → Hp → Prop) (ew : wipe σ vs = σ0) (h0 : ∀ D H2, H1 D = none → Same H1 H2 → H2 D = some (.lst []) → I D 0 H2)
    (hG : ∀ D i H, i ≤ n → I D i H → G H)
    (hs : ∀ D i x H H', i < n → I D i H → Y i H x H' → g x σ0 H' fun σ2 H2 => wipe σ2 vs = σ0 ∧ tt σ2 H2 fun b H3 => Way b (te σ2 H3 fun y H4 => LcEnd D (I D (i + 1)) y H4) (I D (i + 1) H3))
    (hd : ∀ D H, I D n H → Q (.ref D) H) : LcG J g tt te vs σ H1 Q := by
  subst ew
  intro D hD
  refine lc_it w (I D) (h0 D _ hD (Sn hD) upd_same) (hG D) ?_ (hd D)
  intro i x H H' hi h y
  have q := hs D i x H H' hi h y
  simp only [← way_if] at q
  exact q
theorem lt_line {m : Nat} (h : m ≤ 100000) : m < sizeLine := Nat.lt_of_le_of_lt h (by decide)
theorem le_line {m : Nat} (h : m ≤ 100000) : m ≤ sizeLine := Nat.le_of_lt (lt_line h)
def AtR (x : V) (k : Addr → Prop) : Prop := ∃ a, x = .ref a ∧ k a
theorem atR {k : Addr → Prop} (h : k a) : AtR (.ref a) k := ⟨a, rfl, h⟩
theorem itL {tl : TE} {T : It → Hp → Prop} (q : tl σ H fun x H1 => AtR x fun a => (∃ xs, SqL K H1 a xs) ∧ T (Itl K a) H1) : iList K tl σ H T := q
theorem hasL {q : Prop} (h : SqL K H a xs) (k : q) : (∃ xs, SqL K H a xs) ∧ q := ⟨⟨xs, h⟩, k⟩
def Is1 (vs : List V) (k : Int → Prop) : Prop := ∃ j, vs = [.int j] ∧ k j
theorem is1 {j : Int} {k : Int → Prop} (h : k j) : Is1 [.int j] k := ⟨j, rfl, h⟩
theorem itR {ta : TA} {T : It → Hp → Prop} (q : ta σ H fun vs H1 => Is1 vs fun j => -(2 ^ 62) ≤ j ∧ j < 2 ^ 62 ∧ T (Itr 0 j.toNat) H1) : iRng1 ta σ H T := q
def Is2 (vs : List V) (k : Int → Int → Prop) : Prop := ∃ i j, vs = [.int i, .int j] ∧ k i j
theorem r1 {j : Int} {q : Prop} (h1 : -(2 ^ 62) ≤ j) (h2 : j < 2 ^ 62) (k : q) : -(2 ^ 62) ≤ j ∧ j < 2 ^ 62 ∧ q := ⟨h1, h2, k⟩
end
section
variable {K : PySem.W.Frag} {σ : L2.St} {H : Hp} {a b : Addr} {xs ys : List V}
def IsZip (K : PySem.W.Frag) (vs : List V) (H1 : Hp) (k : It → Prop) : Prop := ∃ a b xs ys, vs = [.ref a, .ref b] ∧ ((SqL K H1 a xs ∧ SqL K H1 b ys ∧ k (Itz K a b)) ∨ (SqT K H1 a xs ∧ SqT K H1 b ys ∧ k (RZ.ItzT K a b)))
theorem itZ {ta : TA} {T : It → Hp → Prop} (q : ta σ H fun vs H1 => IsZip K vs H1 fun J => T J H1) : RZ.iZipA K ta σ H T := q
theorem zL {k : It → Prop} (h1 : SqL K H a xs) (h2 : SqL K H b ys) (q : k (Itz K a b)) : IsZip K [.ref a, .ref b] H k := ⟨a, b, xs, ys, rfl, .inl ⟨h1, h2, q⟩⟩
theorem zT {k : It → Prop} (h1 : SqT K H a xs) (h2 : SqT K H b ys) (q : k (RZ.ItzT K a b)) : IsZip K [.ref a, .ref b] H k := ⟨a, b, xs, ys, rfl, .inr ⟨h1, h2, q⟩⟩
theorem allL {bs : List Bool} {Q : VK} (h : SqL K H a (bs.map V.bl)) (q : Q (.bl (bs.all id)) H) : rAll K [.ref a] H Q := ⟨a, bs, rfl, h, q⟩
/-- a new pair of the i-th of xs and the i-th of ys -/
def YP (xs ys : List V) : Nat → Hp → V → Hp → Prop := fun i H v H1 => ∃ T x y, v = .ref T ∧ H T = none ∧ Same H H1 ∧ H1 T = some (.tup [x, y]) ∧ xs[i]? = some x ∧ ys[i]? = some y
theorem walkZ {n : Nat} (hn : n = min xs.length ys.length) : Walk (Itz K a b) n (fun H => SqL K H a xs ∧ SqL K H b ys) (YP xs ys) :=
  (walk_zip hn).mono (fun _ h => h) fun i H x H1 _ _ ⟨T, u, t, e1, e2, e3, e4, e5⟩ => ⟨T, u, t, e1, e2, e3 ▸ Sn e2, e3 ▸ upd_same, e4, e5⟩
theorem walkZT {n : Nat} (hn : n = min xs.length ys.length) : Walk (RZ.ItzT K a b) n (fun H => SqT K H a xs ∧ SqT K H b ys) (YP xs ys) := by
  subst hn
  refine ⟨fun i _ hi q => ?_, fun _ q => ⟨xs, ys, q.1, q.2, by omega⟩, fun i H v H' _ q y => ?_⟩
  · have h1 : i < xs.length := by omega
    have h2 : i < ys.length := by omega
    exact ⟨xs, ys, xs[i], ys[i], q.1, q.2, by simp [h1], by simp [h2]⟩
  · obtain ⟨T, x, z, h1, h2, h3, h4, h5⟩ := y
    exact ⟨T, x, z, h1, h2, h3 ▸ Sn h2, h3 ▸ upd_same, h4 xs q.1, h5 ys q.2⟩
theorem all_rep (n : Nat) : (List.replicate n true).all id = true := by
  rw [List.all_eq_true]
  intro x hx
  rw [(List.mem_replicate.mp hx).2]
  rfl
end
section
variable {K : PySem.W.Frag} {σ : L2.St} {H : Hp} {a : Addr} {xs ys : List V} {Q : VK}
def IsSt (K : PySem.W.Frag) (x : V) (H1 : Hp) (k : List V → Prop) : Prop := ∃ p xs, x = V.ref p ∧ (SqT K H1 p xs ∨ SqL K H1 p xs) ∧ k xs
theorem star {te : TE} {t : TA} {Q : List V → Hp → Prop} (q : te σ H fun x H1 => IsSt K x H1 fun xs => t σ H1 fun ys H2 => Q (xs ++ ys) H2) : StX.tStar K te t σ H Q := q
theorem isStL {k : List V → Prop} (h : SqL K H a xs) (q : k xs) : IsSt K (.ref a) H k := ⟨a, xs, rfl, .inr h, q⟩
theorem slT {lo hi : Option Int} (h : SqT K H a xs) (w : ¬ (HT.sIx xs.length 0 lo = 0 ∧ HT.sIx xs.length xs.length hi = xs.length)) (e : cutV xs lo hi = ys) (q : New (.tup ys) H fun p H1 => Q (.ref p) H1) : rSlT K (.ref a) lo hi H Q := by
  subst e
  exact ⟨a, xs, rfl, h, w, q⟩
end
section
variable {K : PySem.W.Frag} {σ : L2.St} {H : Hp} {a : Addr} {xs ys : List V} {Q : VK} {E : XK}
def Kw (n m : Nat) (sp : Sp) (gV : List V → List V → List V) (E : XK) (vs zs : List V) (H : Hp) (Q : VK) : Prop := vs.length = n ∧ zs.length = m ∧ sp (gV vs zs) H Q E
theorem callN {n m : Nat} {sp : Sp} {gV : List V → List V → List V} {t tk : TA} (q : t σ H fun vs H1 => tk σ H1 fun zs H2 => Kw n m sp gV E vs zs H2 Q) : tCallN n m sp gV E t tk σ H Q := q
theorem okN {n m : Nat} {vs zs as : List V} {sp : Sp} {gV : List V → List V → List V} (h1 : vs.length = n) (h2 : zs.length = m) (e : gV vs zs = as) (q : sp as H Q E) : Kw n m sp gV E vs zs H Q := by
  subst e
  exact ⟨h1, h2, q⟩
theorem cat {b : Addr} {zs : List V} (h1 : H a = some (.lst xs)) (h2 : H b = some (.lst ys)) (h3 : xs.length + ys.length ≤ sizeLine) (e : xs ++ ys = zs) (q : New (.lst zs) H fun p H1 => Q (.ref p) H1) : rCat (.ref a) (.ref b) H Q := by
  subst e
  exact ⟨a, b, xs, ys, rfl, rfl, h1, h2, h3, q⟩
def RAddS : R2 := fun x y H Q => ∃ i j, x = .str i ∧ y = .str j ∧ i.length + j.length ≤ sizeLine ∧ Q (.str (i ++ j)) H
theorem c_addS {X : Cx} : OpR X (binaryOp .Add) RAddS := op_add_str
theorem mem_atI {α : Type} {xs : List α} {d : Int} (h0 : 0 ≤ d) (h1 : d < xs.length) : ∃ v, atI xs d = some v ∧ v ∈ xs := by
  obtain ⟨j, rfl⟩ : ∃ j : Nat, d = (j : Int) := ⟨d.toNat, by omega⟩
  have hj : j < xs.length := by omega
  exact ⟨xs[j], atI_nat (List.getElem?_eq_getElem hj), List.getElem_mem hj⟩
theorem ixLm {i : Int} (h : SqL K H a xs) (h0 : 0 ≤ i) (h1 : i < xs.length) (q : ∀ v, v ∈ xs → Q v H) : rIxL K (.ref a) (.int i) H Q := by
  obtain ⟨c, hc, hm⟩ := mem_atI (xs := xs) h0 h1
  exact ⟨a, xs, i, c, rfl, rfl, h, hc, q c hm⟩
end
def kit2 (K : PySem.W.Frag) (t u : Value) (b : Bool) : Prop := PySem.W.kitOne K t u = some b
end Go
/-! ### the bag of the law: a list of a list of ints and four numbers -/
def Bag (H : Hp) (b l : Addr) : Prop := ∃ (ns : List Int) (i : Nat) (r m n : Int), H b = some (.lst [.ref l, .int i, .int r, .int m, .int n]) ∧ H l = some (.lst (ns.map V.int)) ∧ l ≠ b ∧ ns.length ≤ 63 ∧ 0 ≤ r ∧ 0 ≤ m ∧ m < 2147483648
abbrev Stp (b : Addr) (H H' : Hp) : Prop := Go.But b H H'
theorem Stp.trans {b : Addr} {H H1 H2 : Hp} (x : Stp b H H1) (y : Stp b H1 H2) : Stp b H H2 := fun a o n h => y a o n (x a o n h)
theorem Stp.put {b : Addr} {H : Hp} {o : HO} : Stp b H (upd H b o) := fun a u n h => by rw [upd_ne n]; exact h
theorem Stp.new {b p : Addr} {H : Hp} {o : HO} (h : H p = none) : Stp b H (upd H p o) := fun a u _ e => by rw [upd_ne (ne_of_none e h)]; exact e
theorem Same.new {p : Addr} {H : Hp} {o : HO} (h : H p = none) : Same H (upd H p o) := fun a u e => by rw [upd_ne (ne_of_none e h)]; exact e
theorem Same.stp {b : Addr} {H H' : Hp} (h : Same H H') : Stp b H H' := fun a o _ e => h a o e
theorem Bag.same {b l : Addr} {H H' : Hp} (s : Same H H') (h : Bag H b l) : Bag H' b l := by
  obtain ⟨ns, i, r, m, n, h1, h2, h3⟩ := h
  exact ⟨ns, i, r, m, n, s _ _ h1, s _ _ h2, h3⟩
theorem Bag.but {b l q : Addr} {H H' : Hp} (s : Go.But q H H') (n1 : b ≠ q) (n2 : l ≠ q) (h : Bag H b l) : Bag H' b l := by
  obtain ⟨ns, i, r, m, n, h1, h2, h3⟩ := h
  exact ⟨ns, i, r, m, n, s _ _ n1 h1, s _ _ n2 h2, h3⟩
theorem Bag.at {b l : Addr} {H : Hp} (h : Bag H b l) : ∃ u, H b = some u := by
  obtain ⟨ns, i, r, m, n, h1, _⟩ := h
  exact ⟨_, h1⟩
theorem Bag.new {b l p : Addr} {H : Hp} {o : HO} (h : Bag H b l) (hp : H p = none) : Bag (upd H p o) b l := h.same (Same.new hp)
theorem Bag.ne {b l p : Addr} {H : Hp} (h : Bag H b l) (hp : H p = none) : p ≠ b := by
  obtain ⟨ns, i, r, m, n, h1, _⟩ := h
  exact (ne_of_none h1 hp).symm
theorem Bag.nel {b l p : Addr} {H : Hp} (h : Bag H b l) (hp : H p = none) : p ≠ l := by
  obtain ⟨ns, i, r, m, n, _, h1, _⟩ := h
  exact (ne_of_none h1 hp).symm
/-- a list of one's own is written -/
theorem Bag.put {b l p : Addr} {H : Hp} {o : HO} (h : Bag H b l) (n : p ≠ b) (nl : p ≠ l) : Bag (upd H p o) b l := by
  obtain ⟨ns, i, r, m, c, h1, h2, h3⟩ := h
  exact ⟨ns, i, r, m, c, by rw [upd_ne n.symm]; exact h1, by rw [upd_ne nl.symm]; exact h2, h3⟩
theorem Stp.sqL {K : PySem.W.Frag} {b a : Addr} {H H' : Hp} {xs : List V} (s : Stp b H H') (n : a ≠ b) (h : SqL K H a xs) : SqL K H' a xs := Go.lB s n h
theorem Stp.sqT {K : PySem.W.Frag} {b a : Addr} {H H' : Hp} {xs : List V} (s : Stp b H H') (n : a ≠ b) (h : SqT K H a xs) : SqT K H' a xs := Go.tB s n h
local macro_rules | `(tactic| tm_at "idx") => `(tactic| first
  | assumption
  | fail)
local macro_rules | `(tactic| tm_at "idx") => `(tactic| first
  | exact atI_nat (j := 2) rfl
  | exact atI_nat (j := 3) rfl
  | exact atI_nat (j := 4) rfl
  | fail)
local macro_rules | `(tactic| tm_at "idx") => `(tactic| first
  | rfl
  | exact atI_nat (j := 0) rfl
  | exact atI_nat (j := 1) rfl
  | fail)
local macro_rules | `(tactic| tm_at "ixn") => `(tactic| first
  | exact (rfl : _ = some 3)
  | exact (rfl : _ = some 4)
  | rfl
  | fail)
local macro_rules | `(tactic| tm_at "ixn") => `(tactic| first
  | exact (rfl : _ = some 0)
  | exact (rfl : _ = some 1)
  | exact (rfl : _ = some 2)
  | fail)
local macro_rules | `(tactic| tm_at "ne") => `(tactic| first
  | assumption
  | exact Ne.symm (by assumption)
  | fail)
local macro_rules | `(tactic| tm_at "hpO") => `(tactic| first
  | assumption
  | (refine' Go.oS (by assumption) ?z0; (case z0 => tm_at "hpO"))
  | (refine' Go.oB (by assumption) ?z0 ?z1; (case z0 => tm_at "ne"); (case z1 => tm_at "hpO"))
  | fail)
local macro_rules | `(tactic| tm_at "hpL") => `(tactic| first
  | (refine' Go.lB (by assumption) ?z0 ?z1; (case z0 => tm_at "ne"); (case z1 => tm_at "hpL"))
  | fail)
local macro_rules | `(tactic| tm_at "hpL") => `(tactic| first
  | assumption
  | exact SqL.of (by assumption)
  | (refine' Go.lS (by assumption) ?z0; (case z0 => tm_at "hpL"))
  | fail)
local macro_rules | `(tactic| tm_at "hpT") => `(tactic| first
  | (refine' Go.tB (by assumption) ?z0 ?z1; (case z0 => tm_at "ne"); (case z1 => tm_at "hpT"))
  | fail)
local macro_rules | `(tactic| tm_at "hpT") => `(tactic| first
  | assumption
  | exact SqT.of (by assumption)
  | (refine' Go.tS (by assumption) ?z0; (case z0 => tm_at "hpT"))
  | fail)
local macro_rules | `(tactic| tm_at "bag") => `(tactic| first
  | assumption
  | (refine' Bag.same (by assumption) ?z0; (case z0 => tm_at "bag"))
  | (refine' Bag.but (by assumption) ?z0 ?z1 ?z2; (case z0 => tm_at "ne"); (case z1 => tm_at "ne"); (case z2 => tm_at "bag"))
  | fail)
local macro_rules | `(tactic| tm_at "non") => `(tactic| first
  | assumption
  | (refine' Go.freeS (by assumption) ?z0; (case z0 => tm_at "non"))
  | (refine' Go.freeB (by assumption) ?z0 ?z1; (case z0 => tm_at "ne"); (case z1 => tm_at "non"))
  | fail)
local macro_rules | `(tactic| tm_at "same") => `(tactic| first
  | (refine' Go.Same.own ?z0 ?z1 (by assumption); (case z0 => tm_at "same"); (case z1 => tm_at "non"))
  | fail)
local macro_rules | `(tactic| tm_at "same") => `(tactic| first
  | assumption
  | exact Same.refl _
  | (refine' Same.trans ?z0 (by assumption); (case z0 => tm_at "same"))
  | fail)
local macro_rules | `(tactic| tm_at "but") => `(tactic| first
  | (refine' Go.But.trans ?z0 (Go.sb (by assumption)); (case z0 => tm_at "but"))
  | (refine' Go.But.own ?z0 ?z1 (by assumption); (case z0 => tm_at "but"); (case z1 => tm_at "non"))
  | fail)
local macro_rules | `(tactic| tm_at "but") => `(tactic| first
  | assumption
  | exact Go.But.refl
  | (refine' Go.But.trans ?z0 (by assumption); (case z0 => tm_at "but"))
  | fail)
local macro_rules | `(tactic| tm_at "set") => `(tactic| (first | (simp only [Int.reduceToNat, List.set_cons_succ, List.set_cons_zero, List.cons_append, List.nil_append]; (first | done | rfl)) | rfl))
local macro_rules | `(tactic| tm_at "side") => `(tactic| first
  | exact .inl ⟨by omega, by omega⟩
  | (show (0 : Int) < _; omega)
  | exact Nat.le_of_ble_eq_true rfl
  | fail)
local macro_rules | `(tactic| tm_at "side") => `(tactic| first
  | (unfold CDiv; omega)
  | (unfold CPow; omega)
  | exact .inr ⟨by omega, by omega⟩
  | fail)
local macro_rules | `(tactic| tm_at "side") => `(tactic| first
  | assumption
  | omega
  | (unfold CMul; omega)
  | fail)
local macro_rules | `(tactic| tm_at "go1") => `(tactic| first
  | ((with_reducible refine' Go.wb ?_ ?_) <;> intro _)
  | fail)
local macro_rules | `(tactic| tm_at "go1") => `(tactic| first
  | tm_at "sp"
  | ((with_reducible refine' Go.wayT ?e ?_); (case e => exact rfl))
  | ((with_reducible refine' Go.wayF ?e ?_); (case e => exact rfl))
  | fail)
local macro_rules | `(tactic| tm_at "go1") => `(tactic| first
  | ((with_reducible refine' Go.wayT ?e ?_); (case e => first | assumption | (simp only [Bool.or_false, Bool.or_true, Bool.false_or, Bool.true_or, Bool.and_false, Bool.and_true, Bool.false_and, Bool.true_and, Bool.not_false, Bool.not_true, decide_true, decide_false, reduceCtorEq, eq_self, not_true_eq_false, not_false_eq_true]; done)))
  | ((with_reducible refine' Go.wayF ?e ?_); (case e => first | assumption | (simp only [Bool.or_false, Bool.or_true, Bool.false_or, Bool.true_or, Bool.and_false, Bool.and_true, Bool.false_and, Bool.true_and, Bool.not_false, Bool.not_true, decide_true, decide_false, reduceCtorEq, eq_self, not_true_eq_false, not_false_eq_true]; done)))
  | ((with_reducible refine' Go.wd ?_ ?_) <;> intro _ <;> (try (exfalso; omega; done)))
  | fail)
local macro_rules | `(tactic| tm_at "go1") => `(tactic| first
  | with_reducible refine Go.wn ?_
  | with_reducible refine Go.wT ?_
  | with_reducible refine Go.wF ?_
  | fail)
local macro_rules | `(tactic| tm_at "go1") => `(tactic| first
  | with_reducible refine Go.gnil ?_
  | with_reducible refine Go.eqB ?_
  | with_reducible refine Go.neB ?_
  | fail)
local macro_rules | `(tactic| tm_at "go1") => `(tactic| first
  | ((with_reducible refine' Go.gtup ?h ?l ?_); (case h => tm_at "hpT"); (case l => rfl))
  | with_reducible refine Go.gcons ?_
  | fail)
local macro_rules | `(tactic| tm_at "go1") => `(tactic| first
  | with_reducible refine Go.par ?_
  | ((with_reducible refine' Go.par2 ?h ?_); (case h => tm_at "set"))
  | fail)
local macro_rules | `(tactic| tm_at "go1") => `(tactic| first
  | with_reducible refine Go.un ?_
  | with_reducible refine Go.u1 ?_
  | fail)
local macro_rules | `(tactic| tm_at "go1") => `(tactic| first
  | ((with_reducible refine' Go.slT ?h ?w ?e ?_); (case h => tm_at "hpT"); (case w => first | exact fun h => Nat.ne_of_beq_eq_false rfl h.2 | exact fun h => Nat.ne_of_beq_eq_false rfl h.1); (case e => rfl))
  | ((with_reducible refine' Go.allL ?h ?_); (case h => tm_at "hpL"))
  | fail)
local macro_rules | `(tactic| tm_at "go1") => `(tactic| first
  | with_reducible refine Go.star ?_
  | ((with_reducible refine' Go.isStL ?h ?_); (case h => tm_at "hpL"))
  | fail)
local macro_rules | `(tactic| tm_at "go1") => `(tactic| first
  | ((with_reducible refine' Go.cat ?h1 ?h2 ?h3 ?e ?_); (case h1 => tm_at "hpO"); (case h2 => tm_at "hpO"); (case h3 => exact Nat.le_of_ble_eq_true rfl); (case e => tm_at "set"))
  | fail)
local macro_rules | `(tactic| tm_at "go1") => `(tactic| first
  | with_reducible refine Go.isN ?_
  | with_reducible refine Go.callN ?_
  | ((with_reducible refine' Go.okN ?h1 ?h2 ?e ?_); (case h1 => rfl); (case h2 => rfl); (case e => (simp only [List.nil_append, List.cons_append, List.getD_cons_zero, List.getD_cons_succ]; (first | done | rfl))))
  | fail)
local macro_rules | `(tactic| tm_at "go1") => `(tactic| first
  | with_reducible refine Go.ife ?_
  | fail)
local macro_rules | `(tactic| tm_at "go1") => `(tactic| first
  | ((with_reducible refine' Go.slL ?h ?e ?_); (case h => tm_at "hpL"); (case e => first | rfl))
  | with_reducible refine Go.andV ?_
  | with_reducible refine Go.orV ?_
  | fail)
local macro_rules | `(tactic| tm_at "go1") => `(tactic| first
  | with_reducible refine Go.noPart ?_
  | with_reducible refine Go.part ?_
  | with_reducible refine Go.isI ?_
  | fail)
local macro_rules | `(tactic| tm_at "go1") => `(tactic| first
  | with_reducible refine Go.tup ?_
  | ((with_reducible refine And.intro ?l ?_); (case l => first | exact Nat.le_of_ble_eq_true rfl | exact (rfl : (_ : L2.St) = _)))
  | with_reducible refine Go.sl ?_
  | fail)
local macro_rules | `(tactic| tm_at "go1") => `(tactic| first
  | ((with_reducible refine' Go.hasL ?h ?_); (case h => tm_at "hpL"))
  | with_reducible refine Go.lst ?_
  | fail)
local macro_rules | `(tactic| tm_at "go1") => `(tactic| first
  | ((with_reducible refine' Go.r1 ?h1 ?h2 ?_); (case h1 => omega); (case h2 => omega))
  | fail)
local macro_rules | `(tactic| tm_at "go1") => `(tactic| first
  | with_reducible refine Go.atR ?_
  | with_reducible refine Go.is1 ?_
  | fail)
local macro_rules | `(tactic| tm_at "go1") => `(tactic| first
  | with_reducible refine Go.itL ?_
  | with_reducible refine Go.itR ?_
  | fail)
local macro_rules | `(tactic| tm_at "go1") => `(tactic| first
  | ((with_reducible refine' Go.zT ?h1 ?h2 ?_); (case h1 => tm_at "hpT"); (case h2 => tm_at "hpT"))
  | with_reducible refine Go.lc ?_
  | with_reducible refine Go.yes ?_
  | fail)
local macro_rules | `(tactic| tm_at "go1") => `(tactic| first
  | with_reducible refine Go.forr ?_
  | with_reducible refine Go.itZ ?_
  | ((with_reducible refine' Go.zL ?h1 ?h2 ?_); (case h1 => tm_at "hpL"); (case h2 => tm_at "hpL"))
  | fail)
local macro_rules | `(tactic| tm_at "go1") => `(tactic| first
  | ((with_reducible refine' Go.setL ?h ?g ?e ?_); (case h => tm_at "hpO"); (case g => tm_at "ixn"); (case e => tm_at "set"))
  | ((with_reducible refine' Go.wr ?_); intro _ _ _)
  | ((with_reducible refine' Go.new ?_); intro p' H' n' _ _; (try have := Bag.ne (by tm_at "bag") n'); (try have := Bag.nel (by tm_at "bag") n'))
  | fail)
local macro_rules | `(tactic| tm_at "go1") => `(tactic| first
  | with_reducible refine Go.next ?_
  | ((with_reducible refine' Go.name ?h ?_); (case h => tm_at "set"))
  | with_reducible refine Go.sub ?_
  | fail)
local macro_rules | `(tactic| tm_at "go1") => `(tactic| first
  | with_reducible refine Go.isBl ?_
  | with_reducible refine Go.ret ?_
  | with_reducible refine Go.drop ?_
  | fail)
local macro_rules | `(tactic| tm_at "go1") => `(tactic| first
  | with_reducible refine Go.and ?_
  | with_reducible refine Go.or ?_
  | with_reducible refine Go.not ?_
  | fail)
local macro_rules | `(tactic| tm_at "go1") => `(tactic| first
  | with_reducible refine Go.ifS ?_
  | with_reducible refine Go.test ?_
  | with_reducible refine Go.tb ?_
  | fail)
local macro_rules | `(tactic| tm_at "go1") => `(tactic| first
  | with_reducible refine Go.eqS ?_
  | with_reducible refine Go.neS ?_
  | fail)
local macro_rules | `(tactic| tm_at "go1") => `(tactic| first
  | with_reducible refine Go.eqI ?_
  | fail)
local macro_rules | `(tactic| tm_at "go1") => `(tactic| first
  | ((with_reducible refine' Go.lenL ?h ?_); (case h => tm_at "hpL"))
  | ((with_reducible refine' Go.lenT ?h ?_); (case h => tm_at "hpT"))
  | ((with_reducible refine' Go.listL ?h ?_); (case h => tm_at "hpL"))
  | fail)
local macro_rules | `(tactic| tm_at "go1") => `(tactic| first
  | with_reducible refine Go.call ?_
  | with_reducible refine Go.intI ?_
  | ((with_reducible refine Go.absI ?_); intro _ _ _)
  | fail)
local macro_rules | `(tactic| tm_at "go1") => `(tactic| first
  | with_reducible refine Go.cb ?_
  | with_reducible refine Go.cons ?_
  | with_reducible refine Go.nil ?_
  | fail)
local macro_rules | `(tactic| tm_at "go1") => `(tactic| first
  | ((with_reducible refine' Go.ixL ?h ?g ?_); (case h => tm_at "hpL"); (case g => tm_at "idx"))
  | ((with_reducible refine' Go.ixT ?h ?g ?_); (case h => tm_at "hpT"); (case g => tm_at "idx"))
  | ((with_reducible refine' Go.i1 ?h ?_); (case h => tm_at "side"))
  | fail)
local macro_rules | `(tactic| tm_at "go1") => `(tactic| first
  | with_reducible refine Go.cst ?_
  | ((with_reducible refine' Go.var ?v ?_); (case v => rfl))
  | with_reducible refine Go.i0 ?_
  | fail)
local macro_rules | `(tactic| tm_at "go1") => `(tactic| first
  | with_reducible refine Go.seq ?_
  | with_reducible refine Go.asg ?_
  | with_reducible refine Go.op ?_
  | fail)
local macro_rules | `(tactic| tm_at "wipe") => `(tactic| (simp only [List.map, wipe, List.set_cons_succ, List.set_cons_zero]; (first | done | rfl)))
local macro_rules | `(tactic| tm_at "lcEnd") => `(tactic| ((with_reducible refine' Go.lcEnd ?h ?l ?_); (case h => tm_at "hpO"); (case l => (first | omega | (refine Go.lt_line ?_; simp only [List.length_map, List.length_replicate]; omega) | (refine Go.lt_line ?_; omega))); intro _ _ _))
local macro_rules | `(tactic| tm_at "tru") => `(tactic| refine Go.bE (c := true) (by simp) ?_)
local macro_rules | `(tactic| tm_at "go") => `(tactic| repeat' (tm_at "go1"))

theorem cut_ints (ns : List Int) (k : Nat) : cutV (ns.map V.int) none (some (k : Int)) = (ns.take k).map V.int := by
  unfold cutV
  rw [HT.sIx_none, HT.sIx_nat, List.drop_zero, Nat.sub_zero, List.map_take]
  by_cases h : k ≤ (ns.map V.int).length
  · rw [Nat.min_eq_left h]
  · rw [Nat.min_eq_right (by omega), List.take_length, List.take_of_length_le (by omega)]
theorem int_of_map {ns : List Int} {i : Nat} {y : V} (hi : (ns.map V.int)[i]? = some y) : ∃ u, y = V.int u := by
  rw [List.getElem?_map] at hi
  cases e : ns[i]? with
  | none => rw [e] at hi; cases hi
  | some u => rw [e] at hi; exact ⟨u, (Option.some.inj hi).symm⟩
theorem mem_at {α : Type} {xs : List α} {d : Int} (h0 : 0 ≤ d) (h1 : d < xs.length) : ∃ v, atI xs d = some v ∧ v ∈ xs := by
  obtain ⟨j, rfl⟩ : ∃ j : Nat, d = (j : Int) := ⟨d.toNat, by omega⟩
  have hj : j < xs.length := by omega
  exact ⟨xs[j], atI_nat (List.getElem?_eq_getElem hj), List.getElem_mem hj⟩

section
variable {P : Program} {w : World} {K : PySem.W.Frag} {mg : Str → Option Value} {base : Heap} {Z : Fs}
/-! ### _law_bag -/
def sp_law_bag (K : PySem.W.Frag) : Sp := fun vs H Q _ => ∃ (a : Addr) (ns : List Int), vs = [.ref a] ∧ SqL K H a (ns.map V.int) ∧ ns.length ≤ 63 ∧ ∀ (H' : Hp) (b l : Addr), Same H H' → H b = none → H l = none → Bag H' b l → Q (.ref b) H'
theorem ok_law_bag (T : Txt K w mg Z) : FnOk P w K mg base CX0 1 Z.a_law_bag Z.d_law_bag ["_law_script"] (sp_law_bag K) := by
  refine T.F_law_bag.ok sc_law_bag (fun vs H Q E h => ?_) (fun cdv A outer s H vs Q E hr h => ?_)
  · obtain ⟨a, ns, rfl, _⟩ := h
    rfl
  · obtain ⟨a, ns, rfl, hS, hlen, k⟩ := h
    refine ⟨_, (pss_cons (ps_set (i := 1) sc_law_bag.nd rfl (Or.inl rfl) pe_int)
      (pss_cons (ps_for PassesOwn.never rfl (pi_list (pe_slice (sl_list : SlR _ (rSlL K)) (pv 0) po_none (po_some pe_int))) (pg_name (i := 2) sc_law_bag.nd rfl (Or.inl rfl)) (pss_one (ps_set (i := 1) sc_law_bag.nd rfl (Or.inl rfl) (pe_op op_mod (pe_callTy Go.c_int (by rfl) T.n_int boot_int (pa_cons (pe_op op_add (pe_op op_add (pe_op op_mul (pv 1) pe_int) (pe_op op_mul (pe_op op_mod (pe_callTy Go.c_int (by rfl) T.n_int boot_int (pa_cons (pv 2) pa_nil)) pe_int) pe_int)) pe_int) pa_nil)) pe_int))))
      (pss_one (ps_ret (pe_lst (pa_cons (pe_callTy Go.c_list (by rfl) T.n_list boot_list (pa_cons (pe_slice (sl_list : SlR _ (rSlL K)) (pv 0) po_none (po_some pe_int)) pa_nil)) (pa_cons pe_int (pa_cons pe_int (pa_cons (pv 1) (pa_cons pe_int pa_nil)))))))))), ?_⟩
    refine ⟨.ref a, rfl, 63, rfl, a, ns.map V.int, rfl, hS, fun p hp => ?_⟩
    have s1 : Same H (upd H p (.lst (cutV (ns.map V.int) none (some 63)))) := Same.new hp
    have ec : cutV (ns.map V.int) none (some 63) = (ns.take 63).map V.int := cut_ints ns 63
    refine ⟨p, rfl, ⟨_, SqL.of upd_same⟩, for_list (K := K) (a := p) (xs := cutV (ns.map V.int) none (some 63)) (fun i σ H' => ∃ (m : Int) (v : Option V), σ = [some (.ref a), some (.int m), v] ∧ Same (upd H p (.lst (cutV (ns.map V.int) none (some 63)))) H' ∧ 0 ≤ m ∧ m < 2147483579)
      ⟨12026, none, rfl, Same.refl _, by decide, by decide⟩ (fun i σ H' _ ⟨_, _, _, s2, _⟩ => SqL.of (s2 _ _ upd_same)) ?_ ?_⟩
    · rintro i y σ H' hi ⟨m, v, rfl, s2, h0, h1⟩
      rw [ec] at hi
      obtain ⟨u, rfl⟩ := int_of_map hi
      tm_at "go"
      exact ⟨_, _, rfl, s2, Int.emod_nonneg _ (by decide), Int.emod_lt_of_pos _ (by decide)⟩
    · rintro σ H' ⟨m, v, rfl, s2, h0, h1⟩
      refine ⟨.ref a, rfl, 63, rfl, a, ns.map V.int, rfl, (s1.trans s2).seq hS, fun q hq => ⟨q, _, rfl, .inl (SqL.of upd_same), fun l hl => ⟨_, rfl, (by show 5 ≤ sizeLine; decide), fun b hb => ?_⟩⟩⟩
      have nlb : l ≠ b := fun e => by
        rw [← e, upd_same] at hb
        cases hb
      have s3 := ((s1.trans s2).trans (Same.new (o := .lst (cutV (ns.map V.int) none (some 63))) hq)).trans (Same.new (o := .lst (cutV (ns.map V.int) none (some 63))) hl)
      refine k _ b l (s3.trans (Same.new hb)) (s3.free hb) (((s1.trans s2).trans (Same.new (o := .lst (cutV (ns.map V.int) none (some 63))) hq)).free hl) ⟨ns.take 63, 0, 0, m, 0, upd_same, ?_, nlb, ?_, by decide, h0, by omega⟩
      · rw [upd_ne nlb, upd_same, ec]
      · rw [List.length_take]
        omega
/-! ### _law_draw -/
def sp_law_draw : Sp := fun vs H Q _ => ∃ (b l : Addr) (d : Int), vs = [.ref b, .int d] ∧ Bag H b l ∧ 0 < d ∧ d < 1073741824 ∧ ∀ (H' : Hp) (v : Int), Stp b H H' → Bag H' b l → 0 ≤ v → v < d → Q (.int v) H'
theorem i_draw {H : Hp} {Q : VK} {E : XK} {b l : Addr} {d : Int} (hB : Bag H b l) (h0 : 0 < d) (h1 : d < 1073741824) (q : ∀ (H' : Hp) (v : Int), Stp b H H' → Bag H' b l → 0 ≤ v → v < d → Q (.int v) H') : sp_law_draw [.ref b, .int d] H Q E := ⟨b, l, d, rfl, hB, h0, h1, q⟩
theorem ok_law_draw (T : Txt K w mg Z) : FnOk P w K mg base CX0 1 Z.a_law_draw Z.d_law_draw ["_law_bag_here", "_law_sides"] sp_law_draw := by
  refine T.F_law_draw.ok sc_law_draw (fun vs H Q E h => ?_) (fun cdv A outer s H vs Q E hr h => ?_)
  · obtain ⟨b, l, d, rfl, _⟩ := h
    rfl
  · obtain ⟨b, l, d, rfl, ⟨ns, i, r, m, n, hb, hl, nlb, hlen, r0, m0, m1⟩, d0, d1, k⟩ := h
    refine ⟨_, (pss_cons (ps_asg (pe_op op_add (pe_ix (ix_list : IxR _ (rIxL K)) (pv 0) pe_int (fun _ _ => rfl)) pe_int) (pg_sub (pv 0) pe_int set_list))
      (C8.pss_cut (ps_if (PW.pt (pw_and (pt_cmpR op_eq (pe_ix (ix_list : IxR _ (rIxL K)) (pv 0) pe_int (fun _ _ => rfl)) pe_int (nomark _)) (pw_and1 (pt_cmpR op_lt (pe_ix (ix_list : IxR _ (rIxL K)) (pv 0) pe_int (fun _ _ => rfl)) (pe_callB (Go.c_len : CallR _ _ (Go.RLen K)) (by rfl) T.n_len boot_len (pa_cons (pe_ix (ix_list : IxR _ (rIxL K)) (pv 0) pe_int (fun _ _ => rfl)) pa_nil)) (nomark _))))) (pss_cons (ps_set (i := 2) sc_law_draw.nd rfl (Or.inl rfl) (pe_callTy Go.c_int (by rfl) T.n_int boot_int (pa_cons (pe_ix (ix_list : IxR _ (rIxL K)) (pe_ix (ix_list : IxR _ (rIxL K)) (pv 0) pe_int (fun _ _ => rfl)) (pe_ix (ix_list : IxR _ (rIxL K)) (pv 0) pe_int (fun _ _ => rfl)) (fun _ _ => rfl)) pa_nil)))
      (pss_cons (ps_asg (pe_op op_add (pe_ix (ix_list : IxR _ (rIxL K)) (pv 0) pe_int (fun _ _ => rfl)) pe_int) (pg_sub (pv 0) pe_int set_list))
      (pss_one (ps_if (pt_cmpR op_ge (pe_callB Go.c_abs (by rfl) T.n_abs boot_abs (pa_cons (pv 2) pa_nil)) (pe_op op_pow pe_int pe_int) (nomark _)) (pss_one (ps_asg (pe_callB Go.c_abs (by rfl) T.n_abs boot_abs (pa_cons (pv 2) pa_nil)) (pg_sub (pv 0) pe_int set_list))) (pss_one (ps_asg (pe_op op_mod (pe_callTy Go.c_int (by rfl) T.n_int boot_int (pa_cons (pe_op op_add (pe_op op_add (pe_op op_mul (pe_ix (ix_list : IxR _ (rIxL K)) (pv 0) pe_int (fun _ _ => rfl)) pe_int) (pe_op op_mul (pe_op op_mod (pe_callTy Go.c_int (by rfl) T.n_int boot_int (pa_cons (pv 2) pa_nil)) pe_int) pe_int)) pe_int) pa_nil)) pe_int) (pg_sub (pv 0) pe_int set_list))))))) pss_nil)
      (pss_cons (ps_if (pt_cmpR op_gt (pe_ix (ix_list : IxR _ (rIxL K)) (pv 0) pe_int (fun _ _ => rfl)) pe_int (nomark _)) (pss_cons (ps_set (i := 3) sc_law_draw.nd rfl (Or.inl rfl) (pe_op op_mod (pe_callTy Go.c_int (by rfl) T.n_int boot_int (pa_cons (pe_ix (ix_list : IxR _ (rIxL K)) (pv 0) pe_int (fun _ _ => rfl)) pa_nil)) (pv 1)))
      (pss_cons (ps_asg (pe_op op_fdiv (pe_ix (ix_list : IxR _ (rIxL K)) (pv 0) pe_int (fun _ _ => rfl)) (pv 1)) (pg_sub (pv 0) pe_int set_list))
      (pss_one (ps_ret (pv 3))))) pss_nil)
      (pss_cons (ps_set (i := 4) sc_law_draw.nd rfl (Or.inl rfl) (pe_callTy Go.c_int (by rfl) T.n_int boot_int (pa_cons (pe_ix (ix_list : IxR _ (rIxL K)) (pv 0) pe_int (fun _ _ => rfl)) pa_nil)))
      (pss_cons (ps_asg (pe_op op_mod (pe_callTy Go.c_int (by rfl) T.n_int boot_int (pa_cons (pe_op op_add (pe_op op_add (pe_op op_add (pe_op op_mul (pe_op op_mul (pv 4) (pv 4)) pe_int) (pe_op op_mul (pv 4) pe_int)) (pe_op op_mul (pe_ix (ix_list : IxR _ (rIxL K)) (pv 0) pe_int (fun _ _ => rfl)) pe_int)) pe_int) pa_nil)) pe_int) (pg_sub (pv 0) pe_int set_list))
      (pss_one (ps_ret (pe_op op_mod (pe_callTy Go.c_int (by rfl) T.n_int boot_int (pa_cons (pe_op op_add (pe_op op_fdiv (pe_ix (ix_list : IxR _ (rIxL K)) (pv 0) pe_int (fun _ _ => rfl)) pe_int) (pe_op op_mul (pe_op op_mod (pe_callTy Go.c_int (by rfl) T.n_int boot_int (pa_cons (pe_ix (ix_list : IxR _ (rIxL K)) (pv 0) pe_int (fun _ _ => rfl)) pa_nil)) pe_int) pe_int)) pa_nil)) (pv 1))))))))), ?_⟩
    rw [show L2.start N_law_draw [V.ref b, V.int d] = [some (V.ref b), some (V.int d), none, none, none] from rfl]
    try dsimp only [cxOf, Cx.nox]
    tm_at "go"
    refine Go.cut (fun σ' H' => ∃ (y2 : Option V), σ' = [some (.ref b), some (.int d), y2, none, none] ∧ Stp b H H' ∧ Bag H' b l) ?_ ?_
    · tm_at "go"
      · rename_i hi
        have hi' : i < ns.length := by
          rw [List.length_map] at hi
          omega
        have gi : atI (ns.map V.int) (i : Int) = some (.int ns[i]) := atI_nat (by rw [List.getElem?_map, List.getElem?_eq_getElem hi']; rfl)
        tm_at "go"
        · exact ⟨_, rfl, by tm_at "but", ns, i + 1, _, _, _, by assumption, by tm_at "hpO", nlb, hlen, by assumption, by omega, by omega⟩
        · exact ⟨_, rfl, by tm_at "but", ns, i + 1, r, _, _, by assumption, by tm_at "hpO", nlb, hlen, r0, by omega, by omega⟩
      · exact ⟨_, rfl, by tm_at "but", ns, i, r, _, _, by assumption, by tm_at "hpO", nlb, hlen, r0, by omega, by omega⟩
      · exact ⟨_, rfl, by tm_at "but", ns, i, r, _, _, by assumption, by tm_at "hpO", nlb, hlen, r0, by omega, by omega⟩
    · rintro σ' H1 ⟨y2, rfl, s1, ns, i, r, m, n, hb1, hl1, nlb, hlen, r0, m0, m1⟩
      tm_at "go"
      · exact k _ _ (by tm_at "but") ⟨ns, i, r / d, m, n, by assumption, by tm_at "hpO", nlb, hlen, Int.ediv_nonneg r0 (Int.le_of_lt d0), m0, m1⟩ (Int.emod_nonneg _ (by omega)) (Int.emod_lt_of_pos _ d0)
      · exact k _ _ (by tm_at "but") ⟨ns, i, r, _, n, by assumption, by tm_at "hpO", nlb, hlen, r0, by omega, by omega⟩ (Int.emod_nonneg _ (by omega)) (Int.emod_lt_of_pos _ d0)
end

/-! ### data: what a value stands for; none of its lists is the bag -/
/-- a text of ordinary size and signs -/
def StrK (z : Str) : Prop := z.cps.size ≤ 100000 ∧ ∀ c ∈ z.cps.toList, c < 1114112
mutual
inductive Dt (K : PySem.W.Frag) (H : Hp) (b : Addr) : V → PyData → Prop
  | non : Dt K H b .non .none
  | bl (k : Bool) : Dt K H b (.bl k) (.bool k)
  | int (i : Int) : Dt K H b (.int i) (.int i)
  | str {z : Str} (h : StrK z) : Dt K H b (.str z) (.str z)
  | lst {a : Addr} {xs : List V} {ds : List PyData} : SqL K H a xs → a ≠ b → xs.length ≤ 100000 → DtA K H b xs ds → Dt K H b (.ref a) (.list ds)
  | tup {a : Addr} {xs : List V} {ds : List PyData} : SqT K H a xs → a ≠ b → xs.length ≤ 100000 → DtA K H b xs ds → Dt K H b (.ref a) (.tuple ds)
inductive DtA (K : PySem.W.Frag) (H : Hp) (b : Addr) : List V → List PyData → Prop
  | nil : DtA K H b [] []
  | cons {v : V} {vs : List V} {d : PyData} {ds : List PyData} : Dt K H b v d → DtA K H b vs ds → DtA K H b (v :: vs) (d :: ds)
end
mutual
theorem Dt.but {K : PySem.W.Frag} {H H' : Hp} {b : Addr} (s : Go.But b H H') : ∀ {v : V} {d : PyData}, Dt K H b v d → Dt K H' b v d
  | _, _, .non => .non
  | _, _, .bl k => .bl k
  | _, _, .int i => .int i
  | _, _, .str h => .str h
  | _, _, .lst h n l r => .lst (Go.lB s n h) n l (DtA.but s r)
  | _, _, .tup h n l r => .tup (Go.tB s n h) n l (DtA.but s r)
theorem DtA.but {K : PySem.W.Frag} {H H' : Hp} {b : Addr} (s : Go.But b H H') : ∀ {v : List V} {d : List PyData}, DtA K H b v d → DtA K H' b v d
  | _, _, .nil => .nil
  | _, _, .cons h r => .cons (Dt.but s h) (DtA.but s r)
end
theorem Dt.same {K : PySem.W.Frag} {H H' : Hp} {b : Addr} (s : Same H H') {v : V} {d : PyData} (h : Dt K H b v d) : Dt K H' b v d := h.but (Go.sb s)
theorem DtA.len {K : PySem.W.Frag} {H : Hp} {b : Addr} : ∀ {xs : List V} {ds : List PyData}, DtA K H b xs ds → xs.length = ds.length
  | _, _, .nil => rfl
  | _, _, .cons _ r => congrArg (· + 1) r.len
theorem DtA.get {K : PySem.W.Frag} {H : Hp} {b : Addr} : ∀ {xs : List V} {ds : List PyData}, DtA K H b xs ds → ∀ {i : Nat} {v : V}, xs[i]? = some v → ∃ d, ds[i]? = some d ∧ Dt K H b v d
  | _, _, .nil, _, _, h => by cases h
  | _, _, .cons h _, 0, _, e => by
    cases e
    exact ⟨_, rfl, h⟩
  | _, _, .cons _ r, i + 1, v, e => r.get (i := i) e
/-! how deep -/
mutual
def dep : PyData → Nat
  | .list xs => depA xs + 1
  | .tuple xs => depA xs + 1
  | _ => 0
def depA : List PyData → Nat
  | [] => 0
  | x :: xs => max (dep x) (depA xs)
end
theorem dep_le : ∀ {xs : List PyData} {i : Nat} {d : PyData}, xs[i]? = some d → dep d ≤ depA xs
  | [], _, _, h => by cases h
  | x :: xs, 0, d, h => by
    cases h
    unfold depA
    exact Nat.le_max_left _ _
  | x :: xs, i + 1, d, h => by
    unfold depA
    exact Nat.le_trans (dep_le (xs := xs) (i := i) h) (Nat.le_max_right _ _)
theorem tyx_l {K : PySem.W.Frag} {H : Hp} {a : Addr} {xs : List V} (h : SqL K H a xs) : TyX K H (.ref a) (.type "list") := by
  rcases h with (h | ⟨o, h⟩) | ⟨o, its, n, h, hc, _⟩
  · exact .base (.lst h)
  · exact .base (.frz h)
  · exact .kList h hc
theorem tyx_t {K : PySem.W.Frag} {H : Hp} {a : Addr} {xs : List V} (h : SqT K H a xs) : TyX K H (.ref a) (.type "tuple") := by
  rcases h with (h | ⟨o, h⟩) | ⟨o, its, n, h, hc, _⟩
  · exact .base (.tup h)
  · exact .fTuple h
  · exact .kTuple h hc
local macro_rules | `(tactic| tm_at "dt") => `(tactic| first
  | exact Dt.int _
  | (refine' Dt.same (by assumption) ?z0; (case z0 => tm_at "dt"))
  | (refine' Dt.but (by assumption) ?z0; (case z0 => tm_at "dt"))
  | fail)
local macro_rules | `(tactic| tm_at "dt") => `(tactic| first
  | assumption
  | exact Dt.non
  | exact Dt.bl _
  | fail)
local macro_rules | `(tactic| tm_at "tyx") => `(tactic| first
  | (refine' tyx_l ?z0; (case z0 => tm_at "hpL"))
  | fail)
local macro_rules | `(tactic| tm_at "tyx") => `(tactic| first
  | exact .base (.int _)
  | exact .base (.str _)
  | (refine' tyx_t ?z0; (case z0 => tm_at "hpT"))
  | fail)
local macro_rules | `(tactic| tm_at "tyx") => `(tactic| first
  | assumption
  | exact .base .non
  | exact .base (.bl _)
  | fail)
local macro_rules | `(tactic| tm_at "kit") => `(tactic| first
  | assumption
  | exact kit_ty (show kitB _ _ = some false by decide +kernel)
  | exact kit_ty (show kitB _ _ = some true by decide +kernel)
  | fail)
local macro_rules | `(tactic| tm_at "kitB") => `(tactic| first
  | exact (show kitB _ _ = some false by decide +kernel)
  | exact (show kitB _ _ = some true by decide +kernel)
  | fail)
theorem kitA2 {K : PySem.W.Frag} {T A B : String} {a b : Bool} (h1 : kitB T A = some a) (h2 : kitB T B = some b) : PySem.W.kitAny K (.type T) [.type A, .type B] = some (a || b) := by
  cases a with
  | true => exact kitAny_cons (b := true) (kit_ty h1) (fun e => nomatch e) fun _ => rfl
  | false =>
    refine kitAny_cons (b := false) (kit_ty h1) (fun _ => ?_) fun e => nomatch e
    cases b with
    | true => exact kitAny_cons (b := true) (kit_ty h2) (fun e => nomatch e) fun _ => rfl
    | false => exact kitAny_cons (b := false) (kit_ty h2) (fun _ => kitAny_nil) fun e => nomatch e
theorem isi2 {K : PySem.W.Frag} {H : Hp} {Q : VK} {x : V} {tp : Addr} {T A B : String} {a b : Bool} (h : H tp = some (.tup [.ty A, .ty B])) (h1 : TyX K H x (.type T)) (h2 : kitB T A = some a) (h3 : kitB T B = some b) (q : Q (.bl (a || b)) H) : rIsiT K [x, .ref tp] H Q :=
  ⟨x, tp, _, _, _, _, rfl, h, .cons (.ty _) (.cons (.ty _) .nil), h1, kitA2 h2 h3, q⟩
local macro_rules | `(tactic| tm_at "sp") => `(tactic| first
  | ((with_reducible refine' Go.isi ?a ?b ?c ?_); (case a => exact .ty _); (case b => tm_at "tyx"); (case c => tm_at "kit"))
  | ((with_reducible refine' isi2 ?a ?b ?c ?d ?_); (case a => tm_at "hpO"); (case b => tm_at "tyx"); (case c => tm_at "kitB"); (case d => tm_at "kitB"))
  | fail)
section
variable {P : Program} {w : World} {K : PySem.W.Frag} {mg : Str → Option Value} {base : Heap} {Z : Fs}
/-! ### _law_same -/
def sp_law_same (K : PySem.W.Frag) (n : Nat) : Sp := fun vs H Q _ => ∃ (x y : V) (b : Addr) (d : PyData), vs = [x, y] ∧ Dt K H b x d ∧ Dt K H b y d ∧ dep d ≤ n ∧ ∀ H' : Hp, Same H H' → Q (.bl true) H'
theorem i_same {n : Nat} {H : Hp} {Q : VK} {E : XK} {x y : V} {b : Addr} {d : PyData} (h1 : Dt K H b x d) (h2 : Dt K H b y d) (h3 : dep d ≤ n) (q : ∀ H' : Hp, Same H H' → Q (.bl true) H') : sp_law_same K n [x, y] H Q E := ⟨x, y, b, d, rfl, h1, h2, h3, q⟩
theorem ok_law_same (T : Txt K w mg Z) : ∀ n : Nat, FnOk P w K mg base CX0 (n + 1) Z.a_law_same Z.d_law_same ["_law_found", "_law_due"] (sp_law_same K n)
  | 0 => by
    refine T.F_law_same.ok sc_law_same (fun vs H Q E h => ?_) (fun cdv A outer s H vs Q E hr h => ?_)
    · obtain ⟨x, y, b, d, rfl, _⟩ := h
      rfl
    · obtain ⟨x, y, b, d, rfl, hx, hy, hd, k⟩ := h
      refine ⟨_, (pss_cons (ps_if (PW.pt (pw_or (pt_cmp (pc_isN (pv 1))) (pw_or1 (pt_cmp (pc_isN (pv 0)))))) (pss_one (ps_ret (pe_and (pe_cmp (pc_isN (pv 1)) rfl) (pe_one (pe_cmp (pc_isN (pv 0)) rfl))))) pss_nil)
      (pss_cons (ps_if (pt_val (pe_callB (call_isiT : CallR _ _ (rIsiT K)) (by rfl) T.n_isinstance boot_isinstance (pa_cons (pv 1) (pa_cons (pe_tup (pa_cons (pe_bltn (v := .ty "list") (by rfl) T.n_list boot_list rfl) (pa_cons (pe_bltn (v := .ty "tuple") (by rfl) T.n_tuple boot_tuple rfl) pa_nil))) pa_nil)))) pss_never pss_nil)
      (pss_cons (ps_if (PW.pt (pw_or (pt_cmpR op_ne (pe_callB (call_isi : CallR _ _ (rIsi K)) (by rfl) T.n_isinstance boot_isinstance (pa_cons (pv 1) (pa_cons (pe_bltn (v := .ty "bool") (by rfl) T.n_bool boot_bool rfl) pa_nil))) (pe_callB (call_isi : CallR _ _ (rIsi K)) (by rfl) T.n_isinstance boot_isinstance (pa_cons (pv 0) (pa_cons (pe_bltn (v := .ty "bool") (by rfl) T.n_bool boot_bool rfl) pa_nil))) (nomark _)) (pw_or1 (pt_cmpR op_ne (pe_callB (call_isi : CallR _ _ (rIsi K)) (by rfl) T.n_isinstance boot_isinstance (pa_cons (pv 1) (pa_cons (pe_bltn (v := .ty "int") (by rfl) T.n_int boot_int rfl) pa_nil))) (pe_callB (call_isi : CallR _ _ (rIsi K)) (by rfl) T.n_isinstance boot_isinstance (pa_cons (pv 0) (pa_cons (pe_bltn (v := .ty "int") (by rfl) T.n_int boot_int rfl) pa_nil))) (nomark _))))) (pss_one (ps_ret pe_bl)) pss_nil)
      (pss_one (ps_ret (pe_and (pe_cmpR op_eq (pe_callB (call_isi : CallR _ _ (rIsi K)) (by rfl) T.n_isinstance boot_isinstance (pa_cons (pv 1) (pa_cons (pe_bltn (v := .ty "str") (by rfl) T.n_str boot_str rfl) pa_nil))) (pe_callB (call_isi : CallR _ _ (rIsi K)) (by rfl) T.n_isinstance boot_isinstance (pa_cons (pv 0) (pa_cons (pe_bltn (v := .ty "str") (by rfl) T.n_str boot_str rfl) pa_nil))) (nomark _)) (pe_one (pe_cmpR op_eq (pv 0) (pv 1) (nomark _))))))))), ?_⟩
      rw [show L2.start N_law_same [x, y] = [some (x), some (y), none, none] from rfl]
      try dsimp only [cxOf, Cx.nox]
      cases hx with
      | non => cases hy; tm_at "go"; tm_at "tru"; exact k _ (by tm_at "same")
      | bl v => cases hy; tm_at "go"; tm_at "tru"; exact k _ (by tm_at "same")
      | int v => cases hy; tm_at "go"; tm_at "tru"; exact k _ (by tm_at "same")
      | str v => cases hy; tm_at "go"; tm_at "tru"; exact k _ (by tm_at "same")
      | lst _ _ _ _ => exact absurd hd (by simp [dep])
      | tup _ _ _ _ => exact absurd hd (by simp [dep])
  | n + 1 => by
    have G_law_same : FnOk P w K mg base CX0 (n + 1) Z.a_law_same Z.d_law_same ["_law_found", "_law_due"] (sp_law_same K n) := ok_law_same T n
    refine T.F_law_same.ok sc_law_same (fun vs H Q E h => ?_) (fun cdv A outer s H vs Q E hr h => ?_)
    · obtain ⟨x, y, b, d, rfl, _⟩ := h
      rfl
    · obtain ⟨x, y, b, d, rfl, hx, hy, hd, k⟩ := h
      refine ⟨_, (pss_cons (ps_if (PW.pt (pw_or (pt_cmp (pc_isN (pv 1))) (pw_or1 (pt_cmp (pc_isN (pv 0)))))) (pss_one (ps_ret (pe_and (pe_cmp (pc_isN (pv 1)) rfl) (pe_one (pe_cmp (pc_isN (pv 0)) rfl))))) pss_nil)
      (pss_cons (ps_if (pt_val (pe_callB (call_isiT : CallR _ _ (rIsiT K)) (by rfl) T.n_isinstance boot_isinstance (pa_cons (pv 1) (pa_cons (pe_tup (pa_cons (pe_bltn (v := .ty "list") (by rfl) T.n_list boot_list rfl) (pa_cons (pe_bltn (v := .ty "tuple") (by rfl) T.n_tuple boot_tuple rfl) pa_nil))) pa_nil)))) (pss_cons (ps_if (PW.pt (pw_or (pt_cmpR op_ne (pe_callB (call_isi : CallR _ _ (rIsi K)) (by rfl) T.n_isinstance boot_isinstance (pa_cons (pv 0) (pa_cons (pe_bltn (v := .ty "list") (by rfl) T.n_list boot_list rfl) pa_nil))) (pe_callB (call_isi : CallR _ _ (rIsi K)) (by rfl) T.n_isinstance boot_isinstance (pa_cons (pv 1) (pa_cons (pe_bltn (v := .ty "list") (by rfl) T.n_list boot_list rfl) pa_nil))) (nomark _)) (pw_or1 (pt_cmpR op_ne (pe_callB (call_isi : CallR _ _ (rIsi K)) (by rfl) T.n_isinstance boot_isinstance (pa_cons (pv 0) (pa_cons (pe_bltn (v := .ty "tuple") (by rfl) T.n_tuple boot_tuple rfl) pa_nil))) (pe_callB (call_isi : CallR _ _ (rIsi K)) (by rfl) T.n_isinstance boot_isinstance (pa_cons (pv 1) (pa_cons (pe_bltn (v := .ty "tuple") (by rfl) T.n_tuple boot_tuple rfl) pa_nil))) (nomark _))))) (pss_one (ps_ret pe_bl)) pss_nil)
      (pss_one (ps_ret (pe_and (pe_cmpR op_eq (pe_callB (Go.c_len : CallR _ _ (Go.RLen K)) (by rfl) T.n_len boot_len (pa_cons (pv 0) pa_nil)) (pe_callB (Go.c_len : CallR _ _ (Go.RLen K)) (by rfl) T.n_len boot_len (pa_cons (pv 1) pa_nil)) (nomark _)) (pe_one (pe_callB (cr_all rfl) (by rfl) T.n_all boot_all (pa_cons (pe_lc (own := [("_law_a", 2), ("_law_b", 3)]) (g := gTup K 2 (gCons (gName 2) (gCons (gName 3) gNil))) (tt := tYes) rfl sc_law_same.nd (RZ.pi_zipA (by rfl) T.n_zip (pa_cons (pv 0) (pa_cons (pv 1) pa_nil))) (blkOk_by (N := N_law_same) (sc := defScope s_law_same) (by decide +kernel)) (fun _ _ _ _ _ => pg_tup rfl (pgs_cons (pg_name (i := 2) sc_law_same.nd rfl (Or.inl rfl)) (pgs_cons (pg_name (i := 3) sc_law_same.nd rfl (Or.inl rfl)) pgs_nil))) (fun _ _ _ _ _ => pts_nil) (fun _ _ _ _ _ => (pe_call G_law_same (hr.mono (by omega)) (by rfl) T.m_law_same T.F_law_same.kp T.b_law_same .nil pass0 (pa_cons (pv 2) (pa_cons (pv 3) pa_nil))))) pa_nil))))))) pss_nil)
      (pss_cons (ps_if (PW.pt (pw_or (pt_cmpR op_ne (pe_callB (call_isi : CallR _ _ (rIsi K)) (by rfl) T.n_isinstance boot_isinstance (pa_cons (pv 1) (pa_cons (pe_bltn (v := .ty "bool") (by rfl) T.n_bool boot_bool rfl) pa_nil))) (pe_callB (call_isi : CallR _ _ (rIsi K)) (by rfl) T.n_isinstance boot_isinstance (pa_cons (pv 0) (pa_cons (pe_bltn (v := .ty "bool") (by rfl) T.n_bool boot_bool rfl) pa_nil))) (nomark _)) (pw_or1 (pt_cmpR op_ne (pe_callB (call_isi : CallR _ _ (rIsi K)) (by rfl) T.n_isinstance boot_isinstance (pa_cons (pv 1) (pa_cons (pe_bltn (v := .ty "int") (by rfl) T.n_int boot_int rfl) pa_nil))) (pe_callB (call_isi : CallR _ _ (rIsi K)) (by rfl) T.n_isinstance boot_isinstance (pa_cons (pv 0) (pa_cons (pe_bltn (v := .ty "int") (by rfl) T.n_int boot_int rfl) pa_nil))) (nomark _))))) (pss_one (ps_ret pe_bl)) pss_nil)
      (pss_one (ps_ret (pe_and (pe_cmpR op_eq (pe_callB (call_isi : CallR _ _ (rIsi K)) (by rfl) T.n_isinstance boot_isinstance (pa_cons (pv 1) (pa_cons (pe_bltn (v := .ty "str") (by rfl) T.n_str boot_str rfl) pa_nil))) (pe_callB (call_isi : CallR _ _ (rIsi K)) (by rfl) T.n_isinstance boot_isinstance (pa_cons (pv 0) (pa_cons (pe_bltn (v := .ty "str") (by rfl) T.n_str boot_str rfl) pa_nil))) (nomark _)) (pe_one (pe_cmpR op_eq (pv 0) (pv 1) (nomark _))))))))), ?_⟩
      rw [show L2.start N_law_same [x, y] = [some (x), some (y), none, none] from rfl]
      try dsimp only [cxOf, Cx.nox]
      cases hx with
      | non => cases hy; tm_at "go"; tm_at "tru"; exact k _ (by tm_at "same")
      | bl v => cases hy; tm_at "go"; tm_at "tru"; exact k _ (by tm_at "same")
      | int v => cases hy; tm_at "go"; tm_at "tru"; exact k _ (by tm_at "same")
      | str v => cases hy; tm_at "go"; tm_at "tru"; exact k _ (by tm_at "same")
      | @lst a1 xs ds h1 n1 l1 r1 =>
        cases hy with
        | @lst a2 ys _ h2 n2 l2 r2 =>
          have el : xs.length = ys.length := r1.len.trans r2.len.symm
          tm_at "go"
          · refine Go.lc_w (Go.walkZ (K := K) (xs := xs) (ys := ys) (n := xs.length) (by omega)) (fun D i H' => Same H H' ∧ H D = none ∧ i ≤ 100000 ∧ H' D = some (.lst ((List.replicate i true).map V.bl))) (by tm_at "wipe") ?_ ?_ ?_ ?_
            · intro D H2 n0 s2 e2
              exact ⟨by tm_at "same", by tm_at "non", by omega, e2⟩
            · intro D i H2 hi ⟨s2, _, _, e2⟩
              exact ⟨by tm_at "hpL", by tm_at "hpL"⟩
            · rintro D i v H2 H3 hi ⟨s2, nD, li, e2⟩ ⟨T1, u, t, rfl, hT, s3, eT, hu, ht⟩
              obtain ⟨du, e3, hu'⟩ := r1.get hu
              obtain ⟨dt, e4, ht'⟩ := r2.get ht
              rw [e3] at e4
              cases e4
              have hdd : dep du ≤ n := by
                have q := dep_le e3
                simp only [dep] at hd
                omega
              tm_at "go"
              refine i_same (b := b) (d := du) (by tm_at "dt") (by tm_at "dt") hdd fun H5 s5 => ?_
              tm_at "lcEnd"
              refine ⟨by tm_at "same", nD, by omega, ?_⟩
              rename_i e6
              rw [e6, List.replicate_succ', List.map_append]
              rfl
            · rintro D H2 ⟨s2, nD, li, e2⟩
              tm_at "go"
              rw [Go.all_rep]
              exact k _ s2
      | @tup a1 xs ds h1 n1 l1 r1 =>
        cases hy with
        | @tup a2 ys _ h2 n2 l2 r2 =>
          have el : xs.length = ys.length := r1.len.trans r2.len.symm
          tm_at "go"
          · refine Go.lc_w (Go.walkZT (K := K) (xs := xs) (ys := ys) (n := xs.length) (by omega)) (fun D i H' => Same H H' ∧ H D = none ∧ i ≤ 100000 ∧ H' D = some (.lst ((List.replicate i true).map V.bl))) (by tm_at "wipe") ?_ ?_ ?_ ?_
            · intro D H2 n0 s2 e2
              exact ⟨by tm_at "same", by tm_at "non", by omega, e2⟩
            · intro D i H2 hi ⟨s2, _, _, e2⟩
              exact ⟨by tm_at "hpT", by tm_at "hpT"⟩
            · rintro D i v H2 H3 hi ⟨s2, nD, li, e2⟩ ⟨T1, u, t, rfl, hT, s3, eT, hu, ht⟩
              obtain ⟨du, e3, hu'⟩ := r1.get hu
              obtain ⟨dt, e4, ht'⟩ := r2.get ht
              rw [e3] at e4
              cases e4
              have hdd : dep du ≤ n := by
                have q := dep_le e3
                simp only [dep] at hd
                omega
              tm_at "go"
              refine i_same (b := b) (d := du) (by tm_at "dt") (by tm_at "dt") hdd fun H5 s5 => ?_
              tm_at "lcEnd"
              refine ⟨by tm_at "same", nD, by omega, ?_⟩
              rename_i e6
              rw [e6, List.replicate_succ', List.map_append]
              rfl
            · rintro D H2 ⟨s2, nD, li, e2⟩
              tm_at "go"
              rw [Go.all_rep]
              exact k _ s2
end

/-! ### the program's halves -/
def numD (lo hi : Int) : PyData → Bool
  | .int i => decide (lo ≤ i) && decide (i ≤ hi)
  | _ => false
theorem memc {α : Type} {P : α → Prop} {x : α} {l : List α} (h : P x) (t : ∀ y ∈ l, P y) : ∀ y ∈ x :: l, P y := fun y m => by
  rcases List.mem_cons.mp m with e | m
  · rw [e]
    exact h
  · exact t y m
theorem mem0 {α : Type} {P : α → Prop} : ∀ y ∈ ([] : List α), P y := fun _ m => nomatch m
local macro_rules | `(tactic| tm_at "all") => `(tactic| repeat' (first | exact mem0 | refine memc ?_ ?_))
section
variable {P : Program} {w : World} {K : PySem.W.Frag} {mg : Str → Option Value} {base : Heap} {Z : Fs}
def sp_is_number (K : PySem.W.Frag) : Sp := fun vs H Q _ => ∃ (v : V) (lo hi : Int) (b : Addr) (d : PyData), vs = [v, .int lo, .int hi] ∧ Dt K H b v d ∧ ∀ H' : Hp, Same H H' → Q (.bl (numD lo hi d)) H'
end
local macro_rules | `(tactic| tm_at "sp") => `(tactic| first
  | ((with_reducible refine' i_draw ?b ?x ?y ?_); (case b => tm_at "bag"); (case x => (first | omega | decide)); (case y => (first | omega | decide)); intro _ _ _ _ _ _)
  | fail)
section
variable {P : Program} {w : World} {K : PySem.W.Frag} {mg : Str → Option Value} {base : Heap} {Z : Fs}
def sp_law_of (K : PySem.W.Frag) : Sp := fun vs H Q _ => ∃ (b l a : Addr) (xs : List V), vs = [.ref b, .ref a] ∧ Bag H b l ∧ SqL K H a xs ∧ a ≠ b ∧ 0 < xs.length ∧ xs.length ≤ 100000 ∧ ∀ (H' : Hp) (v : V), Stp b H H' → Bag H' b l → v ∈ xs → Q v H'
theorem i_of {H : Hp} {Q : VK} {E : XK} {b l a : Addr} {xs : List V} (hB : Bag H b l) (hx : SqL K H a xs) (ne : a ≠ b) (h0 : 0 < xs.length) (h1 : xs.length ≤ 100000) (q : ∀ (H' : Hp) (v : V), Stp b H H' → Bag H' b l → v ∈ xs → Q v H') : sp_law_of K [.ref b, .ref a] H Q E := ⟨b, l, a, xs, rfl, hB, hx, ne, h0, h1, q⟩
theorem ok_law_of (T : Txt K w mg Z) : FnOk P w K mg base CX0 2 Z.a_law_of Z.d_law_of ["_law_bag_here", "_law_things"] (sp_law_of K) := by
  have G_law_draw := ok_law_draw (P := P) (base := base) T
  refine T.F_law_of.ok sc_law_of (fun vs H Q E h => ?_) (fun cdv A outer s H vs Q E hr h => ?_)
  · obtain ⟨b, l, a, xs, rfl, _⟩ := h
    rfl
  · obtain ⟨b, l, a, xs, rfl, hB, hx, nab, h0, h1, k⟩ := h
    refine ⟨_, (pss_one (ps_ret (pe_ix ix_seq (pv 1) (pe_call G_law_draw (hr.mono (by omega)) (by rfl) T.m_law_draw T.F_law_draw.kp T.b_law_draw .nil pass0 (pa_cons (pv 0) (pa_cons (pe_callB (Go.c_len : CallR _ _ (Go.RLen K)) (by rfl) T.n_len boot_len (pa_cons (pv 1) pa_nil)) pa_nil))) (fun _ _ => rfl)))), ?_⟩
    rw [show L2.start N_law_of [V.ref b, V.ref a] = [some (V.ref b), some (V.ref a)] from rfl]
    try dsimp only [cxOf, Cx.nox]
    tm_at "go"
    rename_i v0 v1
    refine .inl (Go.ixLm (by tm_at "hpL") v0 v1 fun v hm => ?_)
    tm_at "go"
    exact k _ _ (by tm_at "but") (by tm_at "bag") hm
end

open Lend LamX NdefX SupX
/-! ### errors of the program: what the written part says, their kinds -/
def FL : Str := PySem.Challenge.pw_leastimage_k07_objects_and_archives_refu.main.file
/-- an error's class: what the written part says -/
structure ErrV (K : PySem.W.Frag) (mg : Str → Option Value) (x qual : Str) (st : Stmt) (C f : Addr) (fd : FuncData) : Prop where
  mgx : mg x = some (.ref C)
  oex : OexC K C
  ini : PySem.W.findIn K (.ref C) "__init__" = some (some (.ref f))
  tI : PySem.W.typeIn K (.ref f) = some (.type "function")
  sup : ∃ oc od osl dV kV doc pm an cda ct cc bmB, K.lookup f = some ⟨oc, od, .func fd, osl⟩ ∧ fd = PySem.W.ksFn "__init__" qual (defArgs st) (defBody st) (defScope st) dV kV doc pm an (.ref cda) ct cc ∧ SupF FL K mg "ValueError" "ValueError.__init__" "ValueError.__new__" bmB C f cc cda (defArgs st) qual ∧ ExcBaseFacts "ValueError" "ValueError.__new__" "ValueError.__init__" bmB
structure EKind where
  D : Addr
  code : Str
  attrs : List Str
def errD (k : EKind) (xs : List V) : List (Str × V) := ("code", .str k.code) :: (k.attrs.zip xs).reverse
structure KindOk (K : PySem.W.Frag) (mg : Str → Option Value) (k : EKind) : Prop where
  xf : XfC K k.D
  code : PySem.W.findIn K (.ref k.D) "code" = some none
  attr : ∀ a ∈ k.attrs, PySem.W.findIn K (.ref k.D) a = some none
  exm : ∃ cI cM, mg "ImageError" = some (.ref cI) ∧ mg "Missing" = some (.ref cM) ∧ PySem.W.exmAny K (.ref k.D) [.ref cI, .ref cM] = some true
/-- a class of errors: all of it -/
structure EC (K : PySem.W.Frag) (mg : Str → Option Value) (x qual : Str) (st : Stmt) (k : EKind) (f : Addr) (fd : FuncData) : Prop where
  V : ErrV K mg x qual st k.D f fd
  b : L2.Binds K fd ("self" :: k.attrs) []
  ok : KindOk K mg k
def sp_err1 (K : PySem.W.Frag) (D : Addr) (attr code : Str) : Sp := fun vs H Q _ => ∃ (a : Addr) (x : V) (c : Nat), vs = [.ref a, x] ∧ H a = some (exo a D none) ∧ Shows K H x c ∧ c ≤ 5000 ∧
  ∀ dx : Addr, H dx = none → dx ≠ a → Q .non (upd (upd (upd H dx (exd dx [(attr, x)])) a (exo a D (some dx))) dx (exd dx [("code", .str code), (attr, x)]))
def sp_err0 (K : PySem.W.Frag) (D : Addr) (code : Str) : Sp := fun vs H Q _ => ∃ a : Addr, vs = [.ref a] ∧ H a = some (exo a D none) ∧ ∀ dx : Addr, H dx = none → dx ≠ a → Q .non (upd (upd H dx (exd dx [("code", .str code)])) a (exo a D (some dx)))
/-- the error stands at d -/
structure ErrAt (H H' : Hp) (d : Addr) (k : EKind) (xs : List V) : Prop where
  new : H d = none
  same : Same H H'
  at_ : H' d = some (.xd (errD k xs))
theorem Shows.same {K : PySem.W.Frag} {H H' : Hp} {x : V} {c : Nat} (s : Same H H') (h : Shows K H x c) : Shows K H' x c := by
  rcases h with h | ⟨a, xs, ts, e, h | h, f, l⟩
  · exact .inl h
  · exact .inr ⟨a, xs, ts, e, .inl (Go.tS s h), f, l⟩
  · exact .inr ⟨a, xs, ts, e, .inr (Go.lS s h), f, l⟩
theorem mk_err {K : PySem.W.Frag} {D : Addr} {attr code : Str} {i c : Nat} {σ : L2.St} {G : Hp} {x : V} {E : XK} (hv : σ[i]? = some (some x)) (hs : Shows K G x c) (hc : c ≤ 5000) (hE : ∀ d G', ErrAt G G' d ⟨D, code, [attr]⟩ [x] → E (.ref D) (some d) G') :
    tMkO D (sp_err1 K D attr code) [] (tCons (tVar i) tNil) σ G E := by
  refine ⟨x, hv, (by show 1 ≤ 1000; decide), fun a ha => ⟨a, x, c, rfl, upd_same, Shows.same (Same.new ha) hs, hc, fun dx hd hn => ?_⟩⟩
  have gd : G dx = none := by
    rw [upd_ne hn] at hd
    exact hd
  refine ⟨rfl, dx, _, by rw [upd_ne (Ne.symm hn), upd_same], upd_same, gd, hE dx _ ⟨gd, fun b o e => ?_, upd_same⟩⟩
  have b1 : b ≠ dx := ne_of_none e gd
  have b2 : b ≠ a := ne_of_none e ha
  rw [upd_ne b1, del_ne b2, upd_ne b1, upd_ne b2, upd_ne b1, upd_ne b2]
  exact e
theorem mk_errC {K : PySem.W.Frag} {D : Addr} {attr code : Str} {c : Nat} {σ : L2.St} {G : Hp} {x : V} {E : XK} (hs : Shows K G x c) (hc : c ≤ 5000) (hE : ∀ d G', ErrAt G G' d ⟨D, code, [attr]⟩ [x] → E (.ref D) (some d) G') :
    tMkO D (sp_err1 K D attr code) [] (tCons (tC x) tNil) σ G E := by
  have h : tMkO D (sp_err1 K D attr code) [] (tCons (tVar 0) tNil) [some x] G E := mk_err rfl hs hc hE
  obtain ⟨v, e, h⟩ := h
  cases e
  exact h
theorem mk_err0 {K : PySem.W.Frag} {D : Addr} {code : Str} {σ : L2.St} {G : Hp} {E : XK} (hE : ∀ d G', ErrAt G G' d ⟨D, code, []⟩ [] → E (.ref D) (some d) G') : tMkO D (sp_err0 K D code) [] tNil σ G E := by
  refine ⟨(by show 0 ≤ 1000; decide), fun a ha => ⟨a, rfl, upd_same, fun dx hd hn => ?_⟩⟩
  have gd : G dx = none := by
    rw [upd_ne hn] at hd
    exact hd
  refine ⟨rfl, dx, _, upd_same, by rw [upd_ne hn, upd_same], gd, hE dx _ ⟨gd, fun b o e => ?_, ?_⟩⟩
  · have b1 : b ≠ dx := ne_of_none e gd
    have b2 : b ≠ a := ne_of_none e ha
    rw [upd_ne b1, del_ne b2, upd_ne b2, upd_ne b1, upd_ne b2]
    exact e
  · exact upd_same
/-! ### the handled error -/
/-- p is an error of the class at C, its dict at d -/
structure ErrP (K : PySem.W.Frag) (H : Hp) (p : Addr × Obj) (C d : Addr) (fs : List (Str × V)) : Prop where
  cls : XfC K C
  at_ : p.2.cls = .ref C ∧ p.2.dict = some d ∧ ∃ vs, p.2.data = .fields vs
  dict : H d = some (.xd fs)
theorem ErrP.same {K : PySem.W.Frag} {H H' : Hp} {p : Addr × Obj} {C d : Addr} {fs : List (Str × V)} (s : Same H H') (h : ErrP K H p C d fs) : ErrP K H' p C d fs := ⟨h.cls, h.at_, s _ _ h.dict⟩
theorem pin {K : PySem.W.Frag} {p : Addr × Obj} {n : Str} {te : TE} {σ : L2.St} {H : Hp} {Q : VK} (q : te σ H fun x H1 => HotP.RPin K p n x H1 Q) : HotP.tPin K p n te σ H Q := q
theorem pin_in {K : PySem.W.Frag} {H : Hp} {p : Addr × Obj} {C d : Addr} {fs : List (Str × V)} {n : Str} {v : V} {Q : VK} (E : ErrP K H p C d fs) (hno : PySem.W.findIn K (.ref C) n = some none) (hl : fs.lookup n = some v) (q : Q v H) : HotP.RPin K p n (.ref p.1) H Q := ⟨rfl, C, d, fs, v, E.cls, hno, E.at_.1, E.at_.2.1, E.at_.2.2, E.dict, hl, q⟩
theorem inLst {K : PySem.W.Frag} {H : Hp} {z : Str} {p : Addr} {xs : List V} {b : Bool} {Q : VK} (h : SqL K H p xs) (f : xs.all flatV = true) (e : inV (.str z) xs = b) (q : Q (.bl b) H) : rIn K false (.str z) (.ref p) H Q := ⟨p, xs, rfl, .inl h, rfl, f, by rw [e]; exact q⟩
local macro_rules | `(tactic| tm_at "err") => `(tactic| first
  | assumption
  | (refine' ErrP.same (by assumption) ?z0; (case z0 => tm_at "err"))
  | fail)
local macro_rules | `(tactic| tm_at "sp") => `(tactic| first
  | with_reducible refine pin ?_
  | ((with_reducible refine' pin_in ?E ?no ?l ?_); (case E => tm_at "err"); (case no => assumption); (case l => rfl))
  | ((with_reducible refine' inLst (b := false) ?h ?f ?e ?_); (case h => tm_at "hpL"); (case f => rfl); (case e => decide +kernel))
  | fail)
def TryE (EK : List EKind) (Q : VK) : XK := fun cls d H' => ∃ k, k ∈ EK ∧ ∃ (xs : List V) (dd : Addr), xs.length = k.attrs.length ∧ cls = .ref k.D ∧ d = some dd ∧ H' dd = some (.xd (errD k xs)) ∧
  ∀ (G : Hp) (u t : Addr), Same H' G → H' u = none → G u = some (.tup xs) → H' t = none → G t = some (.tup [.str k.code, .ref u]) → Q (.ref t) G
def TryQ (Q : VK) : VK := fun v H' => ∀ (G : Hp) (t : Addr), Same H' G → H' t = none → G t = some (.tup [.str "", v]) → Q (.ref t) G
def sp_law_field (K : PySem.W.Frag) (EK : List EKind) : Addr × Obj → Sp := fun p vs H Q _ => ∃ k, k ∈ EK ∧ ∃ (xs : List V) (d : Addr), xs.length = k.attrs.length ∧ vs = [.ref p.1] ∧ ErrP K H p k.D d (errD k xs) ∧ ∀ (H' : Hp) (t : Addr), Same H H' → H t = none → H' t = some (.tup xs) → Q (.ref t) H'
section
variable {P : Program} {w : World} {K : PySem.W.Frag} {mg : Str → Option Value} {base : Heap} {Z : Fs}
def sp_law_try (P : Program) (w : World) (K : PySem.W.Frag) (mg : Str → Option Value) (base : Heap) (EK : List EKind) (k : Nat) : Sp := fun vs H Q _ => ∃ (f : Addr) (fs : List (Addr × HO)) (sp : Hp → VK → XK → Prop), vs = [.ref f] ∧ Lend.AskOk P w K mg base (L2N.CX P w) k f fs sp ∧ (∀ p ∈ fs, H p.1 = some p.2) ∧
  ∀ (Q' : VK) (E' : XK), (∀ v H', TryQ Q v H' → Q' v H') → (∀ cls d H', TryE EK Q cls d H' → E' cls d H') → sp H Q' E'
theorem ok_law_try {EK : List EKind} {cI cM : Addr} {k : Nat} (T : Txt K w mg Z) (hk1 : 1 ≤ k) (EO : ∀ e ∈ EK, KindOk K mg e) (mI : mg "ImageError" = some (.ref cI)) (mM : mg "Missing" = some (.ref cM)) (G_law_field : HotP.FnHP P w K mg base C8.CX0 1 Z.a_law_field Z.d_law_field ["_law_e"] (sp_law_field K EK)) :
    FnOk P w K mg base CX0 (k + 1) Z.a_law_try Z.d_law_try ["_law_ask"] (sp_law_try P w K mg base EK k) := by
  refine T.F_law_try.ok sc_law_try (fun vs H Q E h => ?_) (fun cdv A outer s H vs Q E hr h => ?_)
  · obtain ⟨f, fs, sp, rfl, _⟩ := h
    rfl
  · obtain ⟨f, fs, sp, rfl, ok, hf, q⟩ := h
    have vis0 : Vis (defScope s_law_try) "_law_ask" := .inl (by decide +kernel)
    have vis1 : Vis (defScope s_law_try) "_law_e" := .inl (by decide +kernel)
    refine ⟨_, pss_one (LendN.ps_try_tup (i := 1) (c1 := .ref cI) (c2 := .ref cM)
      (tb := fun W => tRet (tTup (tCons (tC (.str "")) (tCons (LendN.tAskS P w K mg base k 0 W) tNil))))
      (ts := fun a oe cls d D' σ H' => (L2N.Zn cls d oe ∧ ∃ vs, oe.data = .fields vs) → (tRet (tTup (tCons (HotP.tPin K (a, oe) "code" (tVar 1)) (tCons (HotP.tCallHP (a, oe) (sp_law_field K EK) (tCons (tVar 1) tNil)) tNil)))) D' σ H')
      rfl rfl sc_law_try.nd rfl rfl ⟨rfl, by decide, .inl mI⟩ ⟨rfl, by decide, .inl mM⟩ (fun W pn xe tk _ => ?_) (fun a oe cls d pn hz hfd nB => ⟨fun pins s σ H D' I h => ?_⟩)), ?_⟩
    · exact pss_one (ps_ret (pe_tup (pa_cons pe_str (pa_cons (LendN.pe_askS hr tk rfl vis0) pa_nil))))
    · obtain ⟨vs0, hv0⟩ := hfd
      exact (pss_one (ps_ret (pe_tup (pa_cons (HotP.pe_pinf (p := (a, oe)) List.mem_cons_self (pe_var (i := 1) rfl vis1)) (pa_cons (HotP.pe_callHP (k := 1) (p := (a, oe)) G_law_field ⟨(hr.mono hk1).dp, (hr.mono hk1).un⟩ ⟨rfl, vs0, hv0, hz.2.2 vs0 hv0⟩ List.mem_cons_self (by rfl) T.m_law_field T.F_law_field.kp T.b_law_field (pa_cons (pe_var (i := 1) rfl vis1) pa_nil)) pa_nil))))).run pins s σ H D' I (h ⟨hz, vs0, hv0⟩)
    · refine ⟨f, fs, sp, rfl, ok, hf, q _ _ (fun v H' hq => ?_) (fun cls d H' he => ?_)⟩
      · refine ⟨by show 2 ≤ sizeLine; decide, fun t ht => ?_⟩
        exact hq _ t (Same.new ht) ht upd_same
      · obtain ⟨e, he, xs, dd, hl, rfl, rfl, hx, kk⟩ := he
        have eo := EO e he
        have hm : PySem.W.exmAny K (.ref e.D) [.ref cI, .ref cM] = some true := by
          obtain ⟨c1, c2, m1, m2, q⟩ := eo.exm
          rw [mI] at m1
          rw [mM] at m2
          cases m1
          cases m2
          exact q
        refine ⟨hm, fun a oe na ⟨hz, hfd⟩ => ?_⟩
        refine ⟨.ref a, rfl, rfl, e.D, dd, _, .str e.code, eo.xf, eo.code, hz.1, hz.2.1, hfd, hx, rfl, ?_⟩
        refine ⟨.ref a, rfl, e, he, xs, dd, hl, rfl, ⟨eo.xf, ⟨hz.1, hz.2.1, hfd⟩, hx⟩, fun G u s1 nu eu => ?_⟩
        refine ⟨by show 2 ≤ sizeLine; decide, fun t ht => ?_⟩
        exact kk _ u t (s1.trans (Same.new ht)) nu (Same.new ht _ _ eu) (Go.freeS s1 ht) upd_same
end
section
variable {P : Program} {w : World} {K : PySem.W.Frag} {mg : Str → Option Value} {base : Heap} {Z : Fs}
def WhyQ (Q : VK) : VK := fun _ H' => ∀ (G : Hp) (t : Addr), Same H' G → H' t = none → G t = some (.tup [.str "", .non]) → Q (.ref t) G
def sp_law_why (P : Program) (w : World) (K : PySem.W.Frag) (mg : Str → Option Value) (base : Heap) (EK : List EKind) (k : Nat) : Sp := fun vs H Q _ => ∃ (f : Addr) (fs : List (Addr × HO)) (sp : Hp → VK → XK → Prop), vs = [.ref f] ∧ Lend.AskOk P w K mg base (L2N.CX P w) k f fs sp ∧ (∀ p ∈ fs, H p.1 = some p.2) ∧
  ∀ (Q' : VK) (E' : XK), (∀ v H', WhyQ Q v H' → Q' v H') → (∀ cls d H', TryE EK Q cls d H' → E' cls d H') → sp H Q' E'
theorem ok_law_why {EK : List EKind} {cI cM : Addr} {k : Nat} (T : Txt K w mg Z) (hk1 : 1 ≤ k) (EO : ∀ e ∈ EK, KindOk K mg e) (ne0 : ∀ e ∈ EK, e.code ≠ "") (mI : mg "ImageError" = some (.ref cI)) (mM : mg "Missing" = some (.ref cM)) (G_law_field : HotP.FnHP P w K mg base C8.CX0 1 Z.a_law_field Z.d_law_field ["_law_e"] (sp_law_field K EK)) :
    FnOk P w K mg base CX0 (k + 2) Z.a_law_why Z.d_law_why ["_law_ask"] (sp_law_why P w K mg base EK k) := by
  have G_law_try := ok_law_try (P := P) (base := base) (k := k) T hk1 EO mI mM G_law_field
  refine T.F_law_why.ok sc_law_why (fun vs H Q E h => ?_) (fun cdv A outer s H vs Q E hr h => ?_)
  · obtain ⟨f, fs, sp, rfl, _⟩ := h
    rfl
  · obtain ⟨f, fs, sp, rfl, ok, hf, q⟩ := h
    refine ⟨_, (pss_cons (ps_set (i := 1) sc_law_why.nd rfl (Or.inl rfl) (pe_call G_law_try (hr.mono (by omega)) (by rfl) T.m_law_try T.F_law_try.kp T.b_law_try .nil pass0 (pa_cons (pv 0) pa_nil)))
      (pss_one (ps_ret (pe_ifExp (pt_cmpR op_ne (pe_ix (ix_tup : IxR _ (rIxT K)) (pv 1) pe_int (fun _ _ => rfl)) pe_str (nomark _)) (pv 1) (pe_tup (pa_cons pe_str (pa_cons pe_non pa_nil))))))), ?_⟩
    rw [show L2.start N_law_why [V.ref f] = [some (V.ref f), none] from rfl]
    try dsimp only [cxOf, Cx.nox]
    tm_at "go"
    refine ⟨f, fs, sp, rfl, ok, hf, fun Q' E' hQ hE => q Q' E' (fun v H' hw => hQ v H' fun G t s1 nt et => ?_) (fun cls d H' he => hE cls d H' ?_)⟩
    · tm_at "go"
      rename_i pp G2 n2' s2 e2
      exact hw _ _ (s1.trans s2) (Go.freeS s1 n2') e2
    · obtain ⟨e, he, xs, dd, hl, e1, e2, hx, kk⟩ := he
      refine ⟨e, he, xs, dd, hl, e1, e2, hx, fun G u t s1 nu eu nt et => ?_⟩
      tm_at "go"
      all_goals first
        | exact absurd ‹e.code = Str.ofString ""› (ne0 e he)
        | exact kk G u t s1 nu eu nt et
end
section
variable {P : Program} {w : World} {K : PySem.W.Frag} {mg : Str → Option Value} {base : Heap} {Z : Fs}
theorem i_why {EK : List EKind} {f : Addr} {fs : List (Addr × HO)} {sp : Hp → VK → XK → Prop} {k : Nat} {H : Hp} {Q : VK} {E : XK} (ok : Lend.AskOk P w K mg base (L2N.CX P w) k f fs sp) (hf : ∀ p ∈ fs, H p.1 = some p.2) (q : ∀ (Q' : VK) (E' : XK), (∀ v H', WhyQ Q v H' → Q' v H') → (∀ cls d H', TryE EK Q cls d H' → E' cls d H') → sp H Q' E') : sp_law_why P w K mg base EK k [.ref f] H Q E := ⟨f, fs, sp, rfl, ok, hf, q⟩
/-- one of the asked: its function stands, and at any later heap a call of it ends in what R tells -/
structure AskIn (P : Program) (w : World) (K : PySem.W.Frag) (mg : Str → Option Value) (base : Heap) (EK : List EKind) (k : Nat) (H : Hp) (x : V) (R : Hp → V → Prop) : Prop where
  ex : ∃ (f : Addr) (fs : List (Addr × HO)) (sp : Hp → VK → XK → Prop), x = .ref f ∧ Lend.AskOk P w K mg base (L2N.CX P w) k f fs sp ∧ (∀ p ∈ fs, H p.1 = some p.2) ∧
    ∀ (H1 : Hp) (Qk : VK) (Q' : VK) (E' : XK), Same H H1 → (∀ G u, Same H1 G → R G u → Qk u G) → (∀ v H', WhyQ Qk v H' → Q' v H') → (∀ cls d H', TryE EK Qk cls d H' → E' cls d H') → sp H1 Q' E'
  stay : ∀ (G G' : Hp) (u : V), (∀ a ys, G a = some (.tup ys) → G' a = some (.tup ys)) → R G u → R G' u
def sp_law_whys (P : Program) (w : World) (K : PySem.W.Frag) (mg : Str → Option Value) (base : Heap) (EK : List EKind) (k : Nat) : Sp := fun vs H Q _ => ∃ (a : Addr) (xs : List V) (R : Nat → Hp → V → Prop), vs = [.ref a] ∧ SqL K H a xs ∧ xs.length ≤ 1000 ∧ (∀ i x, xs[i]? = some x → AskIn P w K mg base EK k H x (R i)) ∧
  ∀ (G : Hp) (t : Addr) (us : List V), Same H G → H t = none → G t = some (.lst us) → us.length = xs.length → (∀ i u, us[i]? = some u → R i G u) → Q (.ref t) G
theorem ok_law_whys {EK : List EKind} {cI cM : Addr} {k : Nat} (T : Txt K w mg Z) (hk1 : 1 ≤ k) (EO : ∀ e ∈ EK, KindOk K mg e) (ne0 : ∀ e ∈ EK, e.code ≠ "") (mI : mg "ImageError" = some (.ref cI)) (mM : mg "Missing" = some (.ref cM)) (G_law_field : HotP.FnHP P w K mg base C8.CX0 1 Z.a_law_field Z.d_law_field ["_law_e"] (sp_law_field K EK)) :
    FnOk P w K mg base CX0 (k + 3) Z.a_law_whys Z.d_law_whys ["_law_asks"] (sp_law_whys P w K mg base EK k) := by
  have G_law_why := ok_law_why (P := P) (base := base) (k := k) T hk1 EO ne0 mI mM G_law_field
  refine T.F_law_whys.ok sc_law_whys (fun vs H Q E h => ?_) (fun cdv A outer s H vs Q E hr h => ?_)
  · obtain ⟨a, xs, R, rfl, _⟩ := h
    rfl
  · obtain ⟨a, xs, R, rfl, hx, hl, asks, k⟩ := h
    refine ⟨_, (pss_one (ps_ret (pe_lc (own := [("_law_ask", 1)]) (g := gName 1) (tt := tYes) rfl sc_law_whys.nd (pi_list (pv 0)) (blkOk_by (N := N_law_whys) (sc := defScope s_law_whys) (by decide +kernel)) (fun _ _ _ _ _ => pg_name (i := 1) sc_law_whys.nd rfl (Or.inl rfl)) (fun _ _ _ _ _ => pts_nil) (fun _ _ _ _ _ => (pe_call G_law_why (hr.mono (by omega)) (by rfl) T.m_law_why T.F_law_why.kp T.b_law_why .nil pass0 (pa_cons (pv 1) pa_nil)))))), ?_⟩
    rw [show L2.start N_law_whys [V.ref a] = [some (V.ref a), none] from rfl]
    try dsimp only [cxOf, Cx.nox]
    tm_at "go"
    refine Go.lc_w (walk_list (K := K) (xs := xs)) (fun L i H' => Same H H' ∧ H L = none ∧ i ≤ xs.length ∧ ∃ us : List V, us.length = i ∧ H' L = some (.lst us) ∧ ∀ j u, us[j]? = some u → R j H' u) (by tm_at "wipe") ?_ ?_ ?_ ?_
    · intro L H2 n0 s2 e2
      exact ⟨s2, n0, Nat.zero_le _, [], rfl, e2, fun j u e => by cases e⟩
    · intro L i H2 hi ⟨s2, _⟩
      exact Go.lS s2 hx
    · rintro L i v H2 H3 hi ⟨s2, nL, li, us, lu, e2, hR⟩ ⟨rfl, hv⟩
      have A1 := asks i v hv
      obtain ⟨f, fs, sp, rfl, ok, hf, q⟩ := A1.ex
      tm_at "go"
      refine i_why ok (fun p hp => s2 _ _ (hf p hp)) fun Q' E' hQ hE => q _ _ Q' E' s2 (fun G u s3 r => ?_) hQ hE
      refine Go.lcEnd (s3 _ _ e2) (Go.lt_line (by omega)) fun H6 s6 e6 => ?_
      have tu : ∀ b ys, G b = some (.tup ys) → H6 b = some (.tup ys) := fun b ys e => s6 b _ (fun z => by
        rw [z, s3 _ _ e2] at e
        cases e) e
      have tu2 : ∀ b ys, H3 b = some (.tup ys) → H6 b = some (.tup ys) := fun b ys e => tu b ys (s3 _ _ e)
      refine ⟨Go.Same.own (s2.trans s3) nL s6, nL, by omega, us ++ [u], by rw [List.length_append, lu]; rfl, e6, fun j z ej => ?_⟩
      rw [List.getElem?_append] at ej
      split at ej
      · rename_i hj
        obtain ⟨xj, hxj⟩ : ∃ xj, xs[j]? = some xj := ⟨xs[j], List.getElem?_eq_getElem (by omega)⟩
        exact (asks j xj hxj).stay H3 H6 z tu2 (hR j z ej)
      · rename_i hj
        have e0 : j = i := by
          by_cases c : j - us.length = 0
          · omega
          · rw [List.getElem?_eq_none (by simp; omega)] at ej
            cases ej
        subst e0
        rw [lu, Nat.sub_self] at ej
        cases ej
        exact A1.stay G H6 u tu r
    · rintro L H2 ⟨s2, nL, li, us, lu, e2, hR⟩
      exact k H2 L us s2 nL e2 lu hR
end

open Lend LamX NdefX SupX
/-- the __init__ of an error with one field: what its text's reading must bear is told once a class -/
theorem ok_err1 {P : Program} {w : World} {K : PySem.W.Frag} {mg : Str → Option Value} {base : Heap} {x qual at_ code : Str} {st : Stmt} {D f : Addr} {fd : FuncData} {e1 : Expr} {te : PySem.W.Frag → TE} {p0 p1 p2 p3 p4 q0 q1 q2 q3 q4 q5 q6 q7 : Pos} {j : Nat} {pl : Env → Sem Bool}
    (PS : ProgS P FL) (EC_ : EC K mg x qual st ⟨D, code, [at_]⟩ f fd) (S : NScope ["self", at_, "__class__"] ["self", at_] ["__class__"] (defScope st)) (hs : (defScope st).names.lookup ("super" : Str) = some .globalImplicit)
    (hb : defBody st = supRow e1 p0 p1 p2 p3 p4 :: [.Assign [.Attribute (.Name "self" q0) at_ q1] (.Name at_ q2) q3, .Assign [.Attribute (.Name "self" q4) "code" q5] (.Constant (.str code) j q6) q7])
    (hcl : ∀ env : Env, eval (.Call (.Attribute (.Call (.Name "super" p0) [] [] p1) "__init__" p2) [e1] [] p3) env = (do
      let ov ← attributeBase (.Call (.Name "super" p0) [] [] p1) "__init__" env (eval (.Call (.Name "super" p0) [] [] p1) env)
      standAt p2.atName
      let (f, first) ← holding [ov] (getMethod ov "__init__" (pl env))
      callWith p3 f first (backTo p3 (starEach [e1] env)) []))
    (he : ∀ env : Env, starEach [e1] env = [(false, eval e1 env)]) (hsw : ∀ env : Env, swapsWith (.Call (.Attribute (.Call (.Name "super" p0) [] [] p1) "__init__" p2) [e1] [] p3) none p4.line env = pure false)
    (v0 : Vis (defScope st) "self") (v1 : Vis (defScope st) at_) (d1 : (at_ == ("__debug__" : Str)) = false) (d2 : (at_ == ("__classdict__" : Str)) = false)
    (hE : ∀ X : Cx, Room 0 X.A → X.N[1]? = some at_ → Vis X.env.scope at_ → PE X e1 (te X.K))
    (hT : ∀ (σ : L2.St) (H : Hp) (Q : VK) (v : V) (c : Nat), σ[1]? = some (some v) → Shows K H v c → c ≤ 5000 → (∀ m : Str, Q (.str m) H) → te K σ H Q) :
    FnOk P w K mg base C8.CX0 1 f fd ["self", at_] (sp_err1 K D at_ code) := by
  have V := EC_.V
  have n1 : PySem.W.findIn K (.ref D) at_ = some none := EC_.ok.attr _ (.head _)
  have n2 : PySem.W.findIn K (.ref D) "code" = some none := EC_.ok.code
  obtain ⟨oc, od, osl, dV, kV, doc, pm, an, cda, ct, cc, bmB, lk, rfl, SF, FB⟩ := V.sup
  rw [hb] at lk ⊢
  refine fn_super (N := ["self", at_, "__class__"]) (k := 0) lk PS SF FB PySem.W.kxs_ValueError S hs rfl hcl he hsw (fun vs H Q E h => ?_) (fun A outer s H vs Q E hr h => ?_)
  · obtain ⟨a, x, c, rfl, _⟩ := h
    rfl
  · obtain ⟨a, x, c, rfl, ha, hsh, hc, k⟩ := h
    refine ⟨a, _, _, rfl, ha, pa_cons (hs := he _) (hE _ hr rfl v1) pa_nil, pss_cons (ps_ost (pe_var (i := 0) rfl v0) (pe_var (i := 1) rfl v1 d1 d2)) (pss_one (ps_ost (pe_var (i := 0) rfl v0) pe_str)), ?_⟩
    refine hT _ _ _ x c rfl hsh hc fun m => ⟨(by show 1 ≤ 1000; decide), ha, x, rfl, .ref a, rfl, a, D, rfl, V.oex, n1, .inl ⟨ha, fun dx hd hn => ?_⟩⟩
    have e2 : upd (upd H dx (exd dx [(at_, x)])) a (exo a D (some dx)) dx = some (exd dx [(at_, x)]) := by
      rw [upd_ne hn, upd_same]
    exact ⟨.ref a, rfl, a, D, rfl, V.oex, n2, .inr ⟨dx, [(at_, x)], upd_same, e2, (by show 1 ≤ 900; decide), k dx hd hn⟩⟩
/-- texts of an error: what stands before, the value, what stands behind -/
theorem txt_mid {K : PySem.W.Frag} {y z : Str} (hy : decide (y.length ≤ 100) = true) (hz : decide (z.length ≤ 100) = true) {σ : L2.St} {H : Hp} {Q : VK} {v : V} {c : Nat} (hv : σ[1]? = some (some v)) (hs : Shows K H v c) (hc : c ≤ 5000) (k : ∀ m : Str, Q (.str m) H) :
    tJs [tC (.str y), tFmtX K (tVar 1), tC (.str z)] Str.empty σ H fun out H1 => Q (.str out) H1 := by
  have big : (6000 : Nat) ≤ sizeLine := by decide
  have y1 := of_decide_eq_true hy
  have z1 := of_decide_eq_true hz
  have l0 : Str.length Str.empty = 0 := rfl
  exact ⟨_, rfl, by rw [strLen_append, l0]; omega, v, hv, c, hs, by omega, fun m hm => ⟨m, rfl, by rw [strLen_append, strLen_append, l0]; omega, _, rfl, by rw [strLen_append, strLen_append, strLen_append, l0]; omega, k _⟩⟩
theorem txt_pre {K : PySem.W.Frag} {y : Str} (hy : decide (y.length ≤ 100) = true) {σ : L2.St} {H : Hp} {Q : VK} {v : V} {c : Nat} (hv : σ[1]? = some (some v)) (hs : Shows K H v c) (hc : c ≤ 5000) (k : ∀ m : Str, Q (.str m) H) :
    tJs [tC (.str y), tFmtX K (tVar 1)] Str.empty σ H fun out H1 => Q (.str out) H1 := by
  have big : (6000 : Nat) ≤ sizeLine := by decide
  have y1 := of_decide_eq_true hy
  have l0 : Str.length Str.empty = 0 := rfl
  exact ⟨_, rfl, by rw [strLen_append, l0]; omega, v, hv, c, hs, by omega, fun m hm => ⟨m, rfl, by rw [strLen_append, strLen_append, l0]; omega, k _⟩⟩
theorem txt_post {K : PySem.W.Frag} {z : Str} (hz : decide (z.length ≤ 100) = true) {σ : L2.St} {H : Hp} {Q : VK} {v : V} {c : Nat} (hv : σ[1]? = some (some v)) (hs : Shows K H v c) (hc : c ≤ 5000) (k : ∀ m : Str, Q (.str m) H) :
    tJs [tFmtX K (tVar 1), tC (.str z)] Str.empty σ H fun out H1 => Q (.str out) H1 := by
  have big : (6000 : Nat) ≤ sizeLine := by decide
  have z1 := of_decide_eq_true hz
  have l0 : Str.length Str.empty = 0 := rfl
  exact ⟨v, hv, c, hs, by omega, fun m hm => ⟨m, rfl, by rw [strLen_append, l0]; omega, _, rfl, by rw [strLen_append, strLen_append, l0]; omega, k _⟩⟩

open Lend LamX NdefX
namespace Go
/-! ### a lambda is made: all but the tables of code objects stays -/
structure Grow (H H1 : Hp) : Prop where
  ext : ExtN H H1
  non : ∀ b, H1 b = none → H b = none
section
variable {K : PySem.W.Frag} {H H1 : Hp} {a p q : Addr} {o : HO} {xs : List V}
theorem Grow.trans {H2 : Hp} (x : Grow H H1) (y : Grow H1 H2) : Grow H H2 := ⟨x.ext.trans y.ext, fun b e => x.non b (y.non b e)⟩
theorem Grow.same (s : Same H H1) : Grow H H1 := ⟨ExtN.of s, fun _ e => freeS s e⟩
theorem oX (s : Grow H H1) (n : ∀ ps, o ≠ .tbl ps) (h : H p = some o) : H1 p = some o := s.ext _ _ h n
theorem lX (s : Grow H H1) (h : SqL K H a xs) : SqL K H1 a xs := by
  rcases h with (h | ⟨o, h⟩) | h
  · exact .inl (.inl (s.ext _ _ h fun ps z => nomatch z))
  · exact .inl (.inr ⟨o, s.ext _ _ h fun ps z => nomatch z⟩)
  · exact .inr h
theorem tX (s : Grow H H1) (h : SqT K H a xs) : SqT K H1 a xs := by
  rcases h with (h | ⟨o, h⟩) | h
  · exact .inl (.inl (s.ext _ _ h fun ps z => nomatch z))
  · exact .inl (.inr ⟨o, s.ext _ _ h fun ps z => nomatch z⟩)
  · exact .inr h
theorem lst_ne {xs : List V} (ps : Array Value) : HO.lst xs ≠ .tbl ps := fun z => nomatch z
theorem tup_ne {xs : List V} (ps : Array Value) : HO.tup xs ≠ .tbl ps := fun z => nomatch z
theorem funO_ne {f : Addr} {fd : FuncData} (ps : Array Value) : FunO f fd ≠ .tbl ps := fun z => by
  unfold FunO at z
  cases z
theorem lamq {T : List (Addr × Str)} {q : Str} {params : Arguments} {body : Expr} {scope : Scope} {cl : List (Str × Addr)} {ds : List V} {Q : VK} (hT : Tabs T H)
    (k : ∀ (f c' : Addr) (dV doc pm ct : Value) (H2 : Hp), Grow H H2 → H f = none → Tabs T H2 → H2 f = some (FunO f (lamFd "<lambda>" q params body scope cl dV doc pm c' ct)) → H2 c' = some (CodeO c' q) → DefsAt H2 dV ds → Q (.ref f) H2) : LamQ T q params body scope cl ds H Q :=
  ⟨hT, fun f c' dV doc pm ct H1 H2 e1 e2 M d => k f c' dV doc pm ct H2 ⟨(ExtN.of e1).trans M.ext, fun b z => e2 b (M.non b z)⟩ (e2 f M.new) M.tabs M.fn M.code d⟩
end
end Go
theorem Bag.grow {b l : Addr} {H H' : Hp} (s : Go.Grow H H') (h : Bag H b l) : Bag H' b l := by
  obtain ⟨ns, i, r, m, n, h1, h2, h3⟩ := h
  exact ⟨ns, i, r, m, n, Go.oX s (fun _ z => nomatch z) h1, Go.oX s (fun _ z => nomatch z) h2, h3⟩

open Lend LamX NdefX SupX
theorem Dt.lit {K : PySem.W.Frag} {H : Hp} {b : Addr} {z : Str} (h : (decide (z.cps.size ≤ 100000) && z.cps.toList.all fun c => decide (c < 1114112)) = true) : Dt K H b (.str z) (.str z) := by
  rw [Bool.and_eq_true] at h
  exact .str ⟨of_decide_eq_true h.1, fun c m => of_decide_eq_true (List.all_eq_true.mp h.2 c m)⟩
mutual
theorem Dt.grow {K : PySem.W.Frag} {H H' : Hp} {b : Addr} (s : Go.Grow H H') : ∀ {v : V} {d : PyData}, Dt K H b v d → Dt K H' b v d
  | _, _, .non => .non
  | _, _, .bl k => .bl k
  | _, _, .int i => .int i
  | _, _, .str h => .str h
  | _, _, .lst h n l r => .lst (Go.lX s h) n l (DtA.grow s r)
  | _, _, .tup h n l r => .tup (Go.tX s h) n l (DtA.grow s r)
theorem DtA.grow {K : PySem.W.Frag} {H H' : Hp} {b : Addr} (s : Go.Grow H H') : ∀ {v : List V} {d : List PyData}, DtA K H b v d → DtA K H' b v d
  | _, _, .nil => .nil
  | _, _, .cons h r => .cons (Dt.grow s h) (DtA.grow s r)
end
local macro_rules | `(tactic| tm_at "dt") => `(tactic| first
  | (refine' Dt.grow (by assumption) ?z0; (case z0 => tm_at "dt"))
  | (refine' Dt.tup ?h ?n ?l ?r; (case h => tm_at "hpT"); (case n => tm_at "ne"); (case l => exact Nat.le_of_ble_eq_true rfl); (case r => tm_at "dtA"))
  | (refine' Dt.lst ?h ?n ?l ?r; (case h => tm_at "hpL"); (case n => tm_at "ne"); (case l => exact Nat.le_of_ble_eq_true rfl); (case r => tm_at "dtA"))
  | fail)
local macro_rules | `(tactic| tm_at "dt") => `(tactic| first
  | assumption
  | exact Dt.str (by assumption)
  | exact Dt.lit (by decide +kernel)
  | fail)
local macro_rules | `(tactic| tm_at "dtA") => `(tactic| first
  | exact DtA.nil
  | (refine' DtA.cons ?a ?b; (case a => tm_at "dt"); (case b => tm_at "dtA"))
  | fail)
local macro_rules | `(tactic| tm_at "tblN") => `(tactic| first
  | with_reducible exact LamX.codeO_ne
  | fail)
local macro_rules | `(tactic| tm_at "tblN") => `(tactic| first
  | with_reducible exact Go.lst_ne
  | with_reducible exact Go.tup_ne
  | with_reducible exact Go.funO_ne
  | fail)
local macro_rules | `(tactic| tm_at "hpO") => `(tactic| first
  | (refine' Go.oX (by assumption) ?z0 ?z1; (case z0 => tm_at "tblN"); (case z1 => tm_at "hpO"))
  | fail)
local macro_rules | `(tactic| tm_at "hpL") => `(tactic| first
  | (refine' Go.lX (by assumption) ?z0; (case z0 => tm_at "hpL"))
  | fail)
local macro_rules | `(tactic| tm_at "hpT") => `(tactic| first
  | (refine' Go.tX (by assumption) ?z0; (case z0 => tm_at "hpT"))
  | fail)
local macro_rules | `(tactic| tm_at "bag") => `(tactic| first
  | (refine' Bag.grow (by assumption) ?z0; (case z0 => tm_at "bag"))
  | fail)
/-! ### what an error may tell of: a value of one depth -/
theorem Shows.but {K : PySem.W.Frag} {H H' : Hp} {b : Addr} {x : V} {d : PyData} {c : Nat} (s : Go.But b H H') (t : Dt K H b x d) (h : Shows K H x c) : Shows K H' x c := by
  rcases h with h | ⟨a, xs, ts, rfl, h, f, l⟩
  · exact .inl h
  · have n : a ≠ b := by cases t <;> assumption
    rcases h with h | h
    · exact .inr ⟨a, xs, ts, rfl, .inl (Go.tB s n h), f, l⟩
    · exact .inr ⟨a, xs, ts, rfl, .inr (Go.lB s n h), f, l⟩
theorem Shows.grow {K : PySem.W.Frag} {H H' : Hp} {x : V} {c : Nat} (s : Go.Grow H H') (h : Shows K H x c) : Shows K H' x c := by
  rcases h with h | ⟨a, xs, ts, rfl, h, f, l⟩
  · exact .inl h
  · rcases h with h | h
    · exact .inr ⟨a, xs, ts, rfl, .inl (Go.tX s h), f, l⟩
    · exact .inr ⟨a, xs, ts, rfl, .inr (Go.lX s h), f, l⟩
structure Odd (K : PySem.W.Frag) (H : Hp) (b : Addr) (v : V) (d : PyData) : Prop where
  dt : Dt K H b v d
  deep : dep d ≤ 1
  shows : ∃ c, Shows K H v c ∧ c ≤ 5000
theorem Odd.but {K : PySem.W.Frag} {H H' : Hp} {b : Addr} {v : V} {d : PyData} (s : Go.But b H H') (h : Odd K H b v d) : Odd K H' b v d := ⟨h.dt.but s, h.deep, let ⟨c, h1, h2⟩ := h.shows; ⟨c, Shows.but s h.dt h1, h2⟩⟩
theorem Odd.same {K : PySem.W.Frag} {H H' : Hp} {b : Addr} {v : V} {d : PyData} (s : Same H H') (h : Odd K H b v d) : Odd K H' b v d := h.but (Go.sb s)
theorem Odd.grow {K : PySem.W.Frag} {H H' : Hp} {b : Addr} {v : V} {d : PyData} (s : Go.Grow H H') (h : Odd K H b v d) : Odd K H' b v d := ⟨h.dt.grow s, h.deep, let ⟨c, h1, h2⟩ := h.shows; ⟨c, Shows.grow s h1, h2⟩⟩
local macro_rules | `(tactic| tm_at "odd") => `(tactic| first
  | (refine' Odd.grow (by assumption) ?z0; (case z0 => tm_at "odd"))
  | fail)
local macro_rules | `(tactic| tm_at "odd") => `(tactic| first
  | assumption
  | (refine' Odd.same (by assumption) ?z0; (case z0 => tm_at "odd"))
  | (refine' Odd.but (by assumption) ?z0; (case z0 => tm_at "odd"))
  | fail)
local macro_rules | `(tactic| tm_at "flat") => `(tactic| first
  | (refine Flat.str _ ?_; decide +kernel)
  | fail)
local macro_rules | `(tactic| tm_at "flat") => `(tactic| first
  | exact Flat.non
  | exact Flat.bl _
  | (refine Flat.int _ ?_; decide +kernel)
  | fail)
local macro_rules | `(tactic| tm_at "flatA") => `(tactic| first
  | exact FlatA.nil
  | (refine' FlatA.cons ?a ?b; (case a => tm_at "flat"); (case b => tm_at "flatA"))
  | fail)
local macro_rules | `(tactic| tm_at "mkOdd") => `(tactic| first
  | (refine' ⟨_, ⟨?d, ?e, 5000, .inl ⟨_, ?f, ?l⟩, Nat.le_refl _⟩⟩; (case d => tm_at "dt"); (case e => decide +kernel); (case f => tm_at "flat"); (case l => decide +kernel))
  | (refine' ⟨_, ⟨?d, ?e, 5000, .inr ⟨_, _, _, rfl, .inl ?s, ?f, ?l⟩, Nat.le_refl _⟩⟩; (case d => tm_at "dt"); (case s => tm_at "hpT"); (case f => tm_at "flatA"); (case e => decide +kernel); (case l => decide +kernel))
  | (refine' ⟨_, ⟨?d, ?e, 5000, .inr ⟨_, _, _, rfl, .inr ?s, ?f, ?l⟩, Nat.le_refl _⟩⟩; (case d => tm_at "dt"); (case s => tm_at "hpL"); (case f => tm_at "flatA"); (case e => decide +kernel); (case l => decide +kernel))
  | fail)
/-! ### what an asked function comes to -/
/-- nothing is wrong, or the code and the fields of what is raised -/
abbrev Wy := Option (Str × List V)
def WhyAt (o : Wy) (H : Hp) (t : Addr) : Prop := match o with
  | none => H t = some (.tup [.str "", .non])
  | some (c, xs) => ∃ u, H t = some (.tup [.str c, .ref u]) ∧ H u = some (.tup xs)
def RW (o : Wy) : Hp → V → Prop := fun G u => ∃ t, u = .ref t ∧ WhyAt o G t
theorem WhyAt.tups {o : Wy} {H H' : Hp} {t : Addr} (s : ∀ a ys, H a = some (.tup ys) → H' a = some (.tup ys)) (h : WhyAt o H t) : WhyAt o H' t := by
  match o, h with
  | none, h => exact s _ _ h
  | some (c, xs), ⟨u, h1, h2⟩ => exact ⟨u, s _ _ h1, s _ _ h2⟩
theorem WhyAt.same {o : Wy} {H H' : Hp} {t : Addr} (s : Same H H') (h : WhyAt o H t) : WhyAt o H' t := h.tups fun a ys e => s _ _ e
/-- its data -/
inductive WhyD (K : PySem.W.Frag) (H : Hp) (b : Addr) : Wy → PyData → Prop
  | ok : WhyD K H b none (.tuple [.str "", .none])
  | er {c : Str} {xs : List V} {ds : List PyData} (hc : StrK c) (hl : xs.length ≤ 100000) (h : DtA K H b xs ds) : WhyD K H b (some (c, xs)) (.tuple [.str c, .tuple ds])
theorem WhyAt.dt {K : PySem.W.Frag} {o : Wy} {H : Hp} {b l t : Addr} {d : PyData} (hB : Bag H b l) (h : WhyAt o H t) (hd : WhyD K H b o d) : Dt K H b (.ref t) d := by
  have ne : ∀ {a : Addr} {ys : List V}, H a = some (.tup ys) → a ≠ b := fun {a ys} e z => by
    obtain ⟨ns, i, r, m, n, h1, _⟩ := hB
    rw [z, h1] at e
    cases e
  cases hd with
  | ok => exact .tup (SqT.of h) (ne h) (Nat.le_of_ble_eq_true rfl) (.cons (.lit (by decide +kernel)) (.cons .non .nil))
  | er hc hl hx =>
    obtain ⟨u, h1, h2⟩ := h
    exact .tup (SqT.of h1) (ne h1) (Nat.le_of_ble_eq_true rfl) (.cons (.str hc) (.cons (.tup (SqT.of h2) (ne h2) hl hx) .nil))
/-- how a call ends: with a value, or an error of a kind with its fields -/
def EndsSo (o : Option (EKind × List V)) (G : Hp) (Q : VK) (E : XK) : Prop := match o with
  | none => ∀ v H', Same G H' → Q v H'
  | some (e, xs) => ∀ d H', ErrAt G H' d e xs → E (.ref e.D) (some d) H'
def wy (o : Option (EKind × List V)) : Wy := o.map fun p => (p.1.code, p.2)
section
variable {P : Program} {w : World} {K : PySem.W.Frag} {mg : Str → Option Value} {base : Heap} {Z : Fs}
theorem ask_gen {EK : List EKind} {f : Addr} {k : Nat} {fs : List (Addr × HO)} {cs : List (Addr × Obj)} {σ0 : L2.St} {tb : XK → TE} {H : Hp} (o : Option (EKind × List V)) (ok : Lend.AskOk P w K mg base (L2N.CX P w) k f fs (LendN.askSp cs σ0 tb)) (hf : ∀ p ∈ fs, H p.1 = some p.2) (hi : Lend.Ins H cs)
    (hk : ∀ e xs, o = some (e, xs) → e ∈ EK ∧ xs.length = e.attrs.length) (hb : ∀ (G : Hp) (Q : VK) (E : XK), Same (Lend.unl H cs) G → EndsSo o G Q E → tb E σ0 G Q) :
    AskIn P w K mg base EK k H (.ref f) (RW (wy o)) := by
  refine ⟨⟨f, fs, _, rfl, ok, hf, fun H1 Qk Q' E' s1 kR hQ hE => ?_⟩, fun G G' u s ⟨t, e, h⟩ => ⟨t, e, h.tups s⟩⟩
  have i1 := LendN.Ins.same s1 hi
  refine hb _ _ _ (LendN.unl_same s1) ?_
  match o, hk, kR with
  | none, _, kR => exact fun v H' sH off => hQ _ _ fun G t sG nt et => kR G (.ref t) ((LendN.lend_same i1 sH).trans sG) ⟨t, rfl, et⟩
  | some (e, xs), hk, kR =>
    obtain ⟨he, hl⟩ := hk e xs rfl
    exact fun d H' eA off => hE _ _ _ ⟨e, he, xs, d, hl, rfl, rfl, LendN.lend_at off eA.at_, fun G u t s nu eu nt et => kR G (.ref t) ((LendN.lend_same i1 eA.same).trans s) ⟨t, rfl, u, et, eu⟩⟩
theorem ask_g0 {EK : List EKind} {f c' : Addr} {k : Nat} {qual : Str} {params : Arguments} {body : Expr} {scope : Scope} {dV doc pm ct : Value} {cs : List (Addr × Obj)} {N fr : List Str} {ws : List V} {X : Cx} {σ : L2.St} {ys : List (Str × Nat)} {H : Hp} {tb : XK → TE} (o : Option (EKind × List V))
    (S : NScope N [] fr scope) (C : LendN.CellW X σ ys cs) (off : LendN.Offs H cs) (hc : Paired (LendN.Cap X cs) fr ws) (hF : H f = some (FunO f (lamFd "<lambda>" qual params body scope (cloFrom X.env.cells scope.names []) dV doc pm c' ct))) (hC : H c' = some (CodeO c' qual)) (hD : DefsAt H dV []) (hb0 : bindArgs (lamFd "<lambda>" qual params body scope (cloFrom X.env.cells scope.names []) .none doc pm c' ct) ⟨[], []⟩ = pure [])
    (hbody : ∀ (A : Around) (outer : List Env) (s : Shared) (H : Hp) (E : XK), Room k (A.deeper (envF ⟨"<lambda>", qual, params, [], scope, cloFrom X.env.cells scope.names [], c'⟩ f s.heap.objs.size)) →
      PE (ncx (L2N.CX P w) P w K mg base N ⟨"<lambda>", qual, params, [], scope, cloFrom X.env.cells scope.names [], c'⟩ f A outer s H E) body (tb E))
    (hk : ∀ e xs, o = some (e, xs) → e ∈ EK ∧ xs.length = e.attrs.length) (hb : ∀ (G : Hp) (Q : VK) (E : XK), Same H G → EndsSo o G Q E → tb E (startF N [] (ws.map some)) G Q) :
    AskIn P w K mg base EK (k + 1) (Lend.lend H cs) (.ref f) (RW (wy o)) := by
  obtain ⟨fs, ok, hf⟩ := LendN.ask0 S C off hc hF hC hD hb0 hbody
  have su := LendN.same_unl_lend (cs := cs) off
  exact ask_gen o ok hf Lend.lend_ins hk fun G Q E s => hb G Q E (su.trans s)
theorem ask_g1 {EK : List EKind} {f c' : Addr} {k : Nat} {qual : Str} {params : Arguments} {body : Expr} {scope : Scope} {dV doc pm ct : Value} {cs : List (Addr × Obj)} {N fr : List Str} {ws : List V} {X : Cx} {σ : L2.St} {ys : List (Str × Nat)} {H : Hp} {tb : XK → TE} {z : Str} {d : V} (o : Option (EKind × List V))
    (S : NScope N [z] fr scope) (C : LendN.CellW X σ ys cs) (off : LendN.Offs H cs) (hc : Paired (LendN.Cap X cs) fr ws) (hF : H f = some (FunO f (lamFd "<lambda>" qual params body scope (cloFrom X.env.cells scope.names []) dV doc pm c' ct))) (hC : H c' = some (CodeO c' qual)) (hD : DefsAt H dV [d])
    (hb0 : ∃ k : Option (Array Value) → Sem (List (Str × Value)), bindArgs (lamFd "<lambda>" qual params body scope (cloFrom X.env.cells scope.names []) dV doc pm c' ct) ⟨[], []⟩ = seqItems? (lamFd "<lambda>" qual params body scope (cloFrom X.env.cells scope.names []) dV doc pm c' ct).defaults >>= k ∧ ∀ u, k (some #[u]) = pure [(z, u)])
    (hbody : ∀ (A : Around) (outer : List Env) (s : Shared) (H : Hp) (E : XK), Room k (A.deeper (envF ⟨"<lambda>", qual, params, [], scope, cloFrom X.env.cells scope.names [], c'⟩ f s.heap.objs.size)) →
      PE (ncx (L2N.CX P w) P w K mg base N ⟨"<lambda>", qual, params, [], scope, cloFrom X.env.cells scope.names [], c'⟩ f A outer s H E) body (tb E))
    (hk : ∀ e xs, o = some (e, xs) → e ∈ EK ∧ xs.length = e.attrs.length) (hb : ∀ (G : Hp) (Q : VK) (E : XK), Same H G → EndsSo o G Q E → tb E (startF N [d] (ws.map some)) G Q) :
    AskIn P w K mg base EK (k + 1) (Lend.lend H cs) (.ref f) (RW (wy o)) := by
  obtain ⟨fs, ok, hf⟩ := LendN.ask1 S C off hc hF hC hD hb0 hbody
  have su := LendN.same_unl_lend (cs := cs) off
  exact ask_gen o ok hf Lend.lend_ins hk fun G Q E s => hb G Q E (su.trans s)
def CW (X : Cx) (ys : List (Str × Nat)) (sp : Sp) (dvs : List V) (σ : L2.St) (vs : List V) (H1 : Hp) (Q : VK) : Prop := (∀ y ∈ ys, LendN.CapOk X σ y) ∧ ∀ cs, LendN.CellW X σ ys cs → LendN.Offs H1 cs → sp (vs ++ dvs) (Lend.lend H1 cs) (fun v H2 => Lend.Ins H2 cs ∧ Q v (Lend.unl H2 cs)) C8.E0
theorem callW {X : Cx} {ys : List (Str × Nat)} {sp : Sp} {dvs : List V} {t : TA} {σ : L2.St} {H : Hp} {Q : VK} (q : t σ H fun vs H1 => CW X ys sp dvs σ vs H1 Q) : LendN.tCallW X ys sp dvs t σ H Q := q
theorem whysW {X : Cx} {ys : List (Str × Nat)} {σ : L2.St} {H : Hp} {Q : VK} {EK : List EKind} {a : Addr} {k : Nat} {xs : List V} (oz : List Wy) (hx : SqL K H a xs) (hl : xs.length = oz.length) (hl2 : xs.length ≤ 1000) (caps : ∀ y ∈ ys, LendN.CapOk X σ y)
    (asks : ∀ cs, LendN.CellW X σ ys cs → LendN.Offs H cs → ∀ i x, xs[i]? = some x → AskIn P w K mg base EK k (Lend.lend H cs) x (RW (oz.getD i none)))
    (q : ∀ (G : Hp) (t : Addr) (ts : List Addr), Same H G → H t = none → G t = some (.lst (ts.map V.ref)) → Paired (fun t o => WhyAt o G t) ts oz → Q (.ref t) G) : CW X ys (sp_law_whys P w K mg base EK k) [] σ [.ref a] H Q := by
  refine ⟨caps, fun cs C off => ⟨a, xs, fun i => RW (oz.getD i none), rfl, Go.lS (LendN.lend_sub off) hx, hl2, asks cs C off, fun G t us sG nt et hlen hR => ⟨LendN.Ins.same sG Lend.lend_ins, ?_⟩⟩⟩
  have iG : Lend.Ins G cs := LendN.Ins.same sG Lend.lend_ins
  have sU : Same H (Lend.unl G cs) := LendN.unl_of off sG
  have key : ∀ (us : List V) (oz : List Wy), us.length = oz.length → (∀ i u, us[i]? = some u → RW (oz.getD i none) G u) → ∃ ts : List Addr, us = ts.map V.ref ∧ Paired (fun t o => WhyAt o (Lend.unl G cs) t) ts oz := by
    intro us
    induction us with
    | nil =>
      intro oz hl _
      cases oz with
      | nil => exact ⟨[], rfl, .nil⟩
      | cons o r => cases hl
    | cons u us ih =>
      intro oz hl hR
      cases oz with
      | nil => cases hl
      | cons o r =>
        obtain ⟨ts, rfl, hp⟩ := ih r (by simpa using hl) (fun i v e => by simpa using hR (i + 1) v (by simpa using e))
        obtain ⟨t, rfl, ht⟩ := hR 0 u rfl
        exact ⟨t :: ts, rfl, .cons (ht.tups fun a ys e => LendN.unl_at iG (fun o => Lend.celO_tup) e) hp⟩
  obtain ⟨ts, rfl, hp⟩ := key us oz (by rw [hlen, hl]) hR
  exact q _ t ts sU (LendN.lend_non nt) (LendN.unl_at iG (fun o => LendN.celO_lst) et) hp
end
theorem tabS {T : List (Addr × Str)} {H H' : Hp} (s : Same H H') (t : Tabs T H) : Tabs T H' := t.ext s
theorem tabB {T : List (Addr × Str)} {H H' : Hp} {b l : Addr} (hB : Bag H b l) (s : Go.But b H H') (t : Tabs T H) : Tabs T H' := fun p hp => by
  obtain ⟨ns, i, r, m, n, h1, _⟩ := hB
  obtain ⟨ps, e1, e2, e3⟩ := t p hp
  have n1 : p.1 ≠ b := fun z => by
    rw [z, h1] at e1
    cases e1
  refine ⟨ps, s _ _ n1 e1, e2, fun pos cv hc => ?_⟩
  obtain ⟨c, q1, q2⟩ := e3 pos cv hc
  refine ⟨c, q1, s _ _ (fun z => ?_) q2⟩
  rw [z, h1] at q2
  have z' := Option.some.inj q2
  unfold CodeO at z'
  cases z'
theorem Dt.intE {K : PySem.W.Frag} {H : Hp} {b : Addr} {i j : Int} (e : i = j) : Dt K H b (.int i) (.int j) := by
  subst e
  exact .int _
theorem defsS {H H' : Hp} {dV : Value} {ds : List V} (s : Same H H') (h : DefsAt H dV ds) : DefsAt H' dV ds := by
  cases ds with
  | nil => exact h
  | cons d r =>
    obtain ⟨t, e, ht⟩ := h
    exact ⟨t, e, s _ _ ht⟩
theorem defsX {H H' : Hp} {dV : Value} {ds : List V} (s : Go.Grow H H') (h : DefsAt H dV ds) : DefsAt H' dV ds := by
  cases ds with
  | nil => exact h
  | cons d r =>
    obtain ⟨t, e, ht⟩ := h
    exact ⟨t, e, Go.oX s (fun _ z => nomatch z) ht⟩
local macro_rules | `(tactic| tm_at "defs") => `(tactic| first
  | assumption
  | (refine' defsS (by assumption) ?z0; (case z0 => tm_at "defs"))
  | (refine' defsX (by assumption) ?z0; (case z0 => tm_at "defs"))
  | fail)
local macro_rules | `(tactic| tm_at "shw") => `(tactic| first
  | (intro z; exact absurd z (by decide +kernel))
  | (intro _; refine' ⟨5000, .inl ⟨_, ?f, ?l⟩, Nat.le_refl _⟩; (case f => tm_at "flat"); (case l => decide +kernel))
  | fail)
abbrev QL (q : Str) : Str := q ++ ".<locals>." ++ "<lambda>"
theorem AskIn.to {P : Program} {w : World} {K : PySem.W.Frag} {mg : Str → Option Value} {base : Heap} {EK : List EKind} {k : Nat} {H : Hp} {x : V} {o o' : Wy} (h : AskIn P w K mg base EK k H x (RW o)) (e : o = o') : AskIn P w K mg base EK k H x (RW o') := e ▸ h

open Lend LamX NdefX SupX
section
variable {P : Program} {w : World} {K : PySem.W.Frag} {mg : Str → Option Value} {base : Heap} {Z : Fs}
def sp_law_odd (K : PySem.W.Frag) : Sp := fun vs H Q _ => ∃ (b l a : Addr) (ms : List V), vs = [.ref b, .ref a] ∧ Bag H b l ∧ H a = some (.lst ms) ∧ a ≠ b ∧ ms.length ≤ 100 ∧ (∀ v ∈ ms, ∃ d, Odd K H b v d) ∧ ∀ (H' : Hp) (v : V) (d : PyData), Stp b H H' → Bag H' b l → Odd K H' b v d → (∀ a, v = .ref a → H a = none ∨ V.ref a ∈ ms) → Q v H'
end
theorem i_sameB {K : PySem.W.Frag} {n : Nat} {H : Hp} {Q : VK} {E : XK} {x y : V} {b l : Addr} {d : PyData} (_ : Bag H b l) (h1 : Dt K H b x d) (h2 : Dt K H b y d) (h3 : dep d ≤ n) (q : ∀ H' : Hp, Same H H' → Q (.bl true) H') : sp_law_same K n [x, y] H Q E := ⟨x, y, b, d, rfl, h1, h2, h3, q⟩
theorem i_bag {K : PySem.W.Frag} {H : Hp} {Q : VK} {E : XK} {a : Addr} {ns : List Int} (h : SqL K H a (ns.map V.int)) (hl : ns.length ≤ 63) (q : ∀ (H' : Hp) (b l : Addr), Same H H' → H b = none → H l = none → Bag H' b l → Q (.ref b) H') : sp_law_bag K [.ref a] H Q E := ⟨a, ns, rfl, h, hl, q⟩
local macro_rules | `(tactic| tm_at "allOdd") => `(tactic| (tm_at "all"; all_goals tm_at "mkOdd"))
local macro_rules | `(tactic| tm_at "tabs") => `(tactic| first
  | assumption
  | (refine' tabS (by assumption) ?z0; (case z0 => tm_at "tabs"))
  | (refine' tabB ?z1 (by assumption) ?z0; (case z0 => tm_at "tabs"); (case z1 => tm_at "bag"))
  | fail)
local macro_rules | `(tactic| tm_at "sp") => `(tactic| first
  | ((with_reducible refine' i_sameB ?b ?h1 ?h2 ?h3 ?_); (case b => tm_at "bag"); (case h1 => tm_at "dt"); (case h2 => tm_at "dt"); (case h3 => (first | decide +kernel | (simp only [dep, depA]; omega))); intro _ _)
  | fail)
local macro_rules | `(tactic| tm_at "sp") => `(tactic| first
  | ((with_reducible refine' i_of ?b ?x ?n ?y ?z ?_); (case b => tm_at "bag"); (case x => tm_at "hpL"); (case n => tm_at "ne"); (case y => exact Nat.le_of_ble_eq_true rfl); (case z => exact Nat.le_of_ble_eq_true rfl); intro _ _ _ _ _)
  | ((with_reducible refine' i_bag ?a ?b ?_); (case a => tm_at "hpL"); (case b => assumption); intro _ _ _ _ _ _ _)
  | fail)
local macro_rules | `(tactic| tm_at "sp") => `(tactic| first
  | with_reducible refine LendN.min2 ?_
  | with_reducible refine callW ?_
  | ((with_reducible refine' Go.lamq ?h ?_); (case h => tm_at "tabs"); intro _ _ _ _ _ _ _ _ _ _ _ _ _)
  | fail)

open Lend LamX NdefX SupX
theorem ok_E_InvalidName {P : Program} {w : World} {K : PySem.W.Frag} {mg : Str → Option Value} {base : Heap} {D f : Addr} {fd : FuncData} (PS : ProgS P FL) (EC_ : EC K mg "InvalidName" "InvalidName.__init__" s_E_InvalidName ⟨D, "InvalidName", ["value"]⟩ f fd) :
    FnOk P w K mg base C8.CX0 1 f fd ["self", "value"] (sp_err1 K D "value" "InvalidName") :=
  ok_err1 (te := fun K σ H Q => tJs [tFmtX K (tVar 1), tC (.str " is not a name")] Str.empty σ H fun out H1 => Q (.str out) H1) PS EC_ (nscope_by (by decide +kernel)) (by decide +kernel) rfl (fun _ => rfl) (fun _ => rfl) (fun _ => rfl) (.inl (by decide +kernel)) (.inl (by decide +kernel)) (by decide) (by decide)
    (fun X hr hn hv => pe_joined (.cons (pe_fmtX hr (pe_var (i := 1) hn hv)) (.cons pe_str .nil))) (fun σ H Q v c hv hs hc k => txt_post (by decide +kernel) hv hs hc k)

theorem ok_E_InvalidPart {P : Program} {w : World} {K : PySem.W.Frag} {mg : Str → Option Value} {base : Heap} {D f : Addr} {fd : FuncData} (PS : ProgS P FL) (EC_ : EC K mg "InvalidPart" "InvalidPart.__init__" s_E_InvalidPart ⟨D, "InvalidPart", ["value"]⟩ f fd) :
    FnOk P w K mg base C8.CX0 1 f fd ["self", "value"] (sp_err1 K D "value" "InvalidPart") :=
  ok_err1 (te := fun K σ H Q => tJs [tFmtX K (tVar 1), tC (.str " is not a part")] Str.empty σ H fun out H1 => Q (.str out) H1) PS EC_ (nscope_by (by decide +kernel)) (by decide +kernel) rfl (fun _ => rfl) (fun _ => rfl) (fun _ => rfl) (.inl (by decide +kernel)) (.inl (by decide +kernel)) (by decide) (by decide)
    (fun X hr hn hv => pe_joined (.cons (pe_fmtX hr (pe_var (i := 1) hn hv)) (.cons pe_str .nil))) (fun σ H Q v c hv hs hc k => txt_post (by decide +kernel) hv hs hc k)

theorem ok_E_InvalidAlignment {P : Program} {w : World} {K : PySem.W.Frag} {mg : Str → Option Value} {base : Heap} {D f : Addr} {fd : FuncData} (PS : ProgS P FL) (EC_ : EC K mg "InvalidAlignment" "InvalidAlignment.__init__" s_E_InvalidAlignment ⟨D, "InvalidAlignment", ["value"]⟩ f fd) :
    FnOk P w K mg base C8.CX0 1 f fd ["self", "value"] (sp_err1 K D "value" "InvalidAlignment") :=
  ok_err1 (te := fun K σ H Q => tJs [tFmtX K (tVar 1), tC (.str " is not an alignment")] Str.empty σ H fun out H1 => Q (.str out) H1) PS EC_ (nscope_by (by decide +kernel)) (by decide +kernel) rfl (fun _ => rfl) (fun _ => rfl) (fun _ => rfl) (.inl (by decide +kernel)) (.inl (by decide +kernel)) (by decide) (by decide)
    (fun X hr hn hv => pe_joined (.cons (pe_fmtX hr (pe_var (i := 1) hn hv)) (.cons pe_str .nil))) (fun σ H Q v c hv hs hc k => txt_post (by decide +kernel) hv hs hc k)

theorem ok_E_InvalidScope {P : Program} {w : World} {K : PySem.W.Frag} {mg : Str → Option Value} {base : Heap} {D f : Addr} {fd : FuncData} (PS : ProgS P FL) (EC_ : EC K mg "InvalidScope" "InvalidScope.__init__" s_E_InvalidScope ⟨D, "InvalidScope", ["value"]⟩ f fd) :
    FnOk P w K mg base C8.CX0 1 f fd ["self", "value"] (sp_err1 K D "value" "InvalidScope") :=
  ok_err1 (te := fun K σ H Q => tJs [tFmtX K (tVar 1), tC (.str " is not a scope of such a piece")] Str.empty σ H fun out H1 => Q (.str out) H1) PS EC_ (nscope_by (by decide +kernel)) (by decide +kernel) rfl (fun _ => rfl) (fun _ => rfl) (fun _ => rfl) (.inl (by decide +kernel)) (.inl (by decide +kernel)) (by decide) (by decide)
    (fun X hr hn hv => pe_joined (.cons (pe_fmtX hr (pe_var (i := 1) hn hv)) (.cons pe_str .nil))) (fun σ H Q v c hv hs hc k => txt_post (by decide +kernel) hv hs hc k)

theorem ok_E_InvalidRow {P : Program} {w : World} {K : PySem.W.Frag} {mg : Str → Option Value} {base : Heap} {D f : Addr} {fd : FuncData} (PS : ProgS P FL) (EC_ : EC K mg "InvalidRow" "InvalidRow.__init__" s_E_InvalidRow ⟨D, "InvalidRow", ["at"]⟩ f fd) :
    FnOk P w K mg base C8.CX0 1 f fd ["self", "at"] (sp_err1 K D "at" "InvalidRow") :=
  ok_err1 (te := fun K σ H Q => tJs [tC (.str "item "), tFmtX K (tVar 1), tC (.str " is not a row of the part")] Str.empty σ H fun out H1 => Q (.str out) H1) PS EC_ (nscope_by (by decide +kernel)) (by decide +kernel) rfl (fun _ => rfl) (fun _ => rfl) (fun _ => rfl) (.inl (by decide +kernel)) (.inl (by decide +kernel)) (by decide) (by decide)
    (fun X hr hn hv => pe_joined (.cons pe_str (.cons (pe_fmtX hr (pe_var (i := 1) hn hv)) (.cons pe_str .nil)))) (fun σ H Q v c hv hs hc k => txt_mid (by decide +kernel) (by decide +kernel) hv hs hc k)

theorem ok_E_TooMany {P : Program} {w : World} {K : PySem.W.Frag} {mg : Str → Option Value} {base : Heap} {D f : Addr} {fd : FuncData} (PS : ProgS P FL) (EC_ : EC K mg "TooMany" "TooMany.__init__" s_E_TooMany ⟨D, "TooMany", ["most"]⟩ f fd) :
    FnOk P w K mg base C8.CX0 1 f fd ["self", "most"] (sp_err1 K D "most" "TooMany") :=
  ok_err1 (te := fun K σ H Q => tJs [tC (.str "there are more than "), tFmtX K (tVar 1)] Str.empty σ H fun out H1 => Q (.str out) H1) PS EC_ (nscope_by (by decide +kernel)) (by decide +kernel) rfl (fun _ => rfl) (fun _ => rfl) (fun _ => rfl) (.inl (by decide +kernel)) (.inl (by decide +kernel)) (by decide) (by decide)
    (fun X hr hn hv => pe_joined (.cons pe_str (.cons (pe_fmtX hr (pe_var (i := 1) hn hv)) .nil))) (fun σ H Q v c hv hs hc k => txt_pre (by decide +kernel) hv hs hc k)

theorem ns_E_NotClosing : NScope ["self", "__class__"] ["self"] ["__class__"] (defScope s_E_NotClosing) := nscope_by (by decide +kernel)
theorem ok_E_NotClosing {P : Program} {w : World} {K : PySem.W.Frag} {mg : Str → Option Value} {base : Heap} {D f : Addr} {fd : FuncData} (PS : ProgS P FL) (EC_ : EC K mg "NotClosing" "NotClosing.__init__" s_E_NotClosing ⟨D, "NotClosing", []⟩ f fd) :
    FnOk P w K mg base C8.CX0 1 f fd ["self"] (sp_err0 K D "NotClosing") := by
  have V := EC_.V
  have n2 : PySem.W.findIn K (.ref D) "code" = some none := EC_.ok.code
  obtain ⟨oc, od, osl, dV, kV, doc, pm, an, cda, ct, cc, bmB, lk, rfl, SF, FB⟩ := V.sup
  refine fn_super (N := ["self", "__class__"]) (k := 0) lk PS SF FB PySem.W.kxs_ValueError ns_E_NotClosing (by decide +kernel) rfl (fun _ => rfl) (fun _ => rfl) (fun _ => rfl) (fun vs H Q E h => ?_) (fun A outer s H vs Q E hr h => ?_)
  · obtain ⟨a, rfl, _⟩ := h
    rfl
  · obtain ⟨a, rfl, ha, k⟩ := h
    have v0 : ∀ i z, i < 1 → (ncx C8.CX0 P w K mg base ["self", "__class__"] (supNF "__init__" "NotClosing.__init__" (defArgs s_E_NotClosing) (defBody s_E_NotClosing) (defScope s_E_NotClosing) cc cda) f A outer s H E).N[i]? = some z → Vis (defScope s_E_NotClosing) z := fun i z hi e => by
      match i, hi with
      | 0, _ => cases e; exact .inl (by decide +kernel)
    refine ⟨a, _, _, rfl, ha, pa_cons pe_str pa_nil, pss_one (ps_ost (pe_var (i := 0) rfl (v0 0 _ (by decide) rfl)) pe_str), ?_⟩
    have big : (6000 : Nat) ≤ sizeLine := by decide
    exact ⟨(by show 1 ≤ 1000; decide), ha, .ref a, rfl, a, D, rfl, V.oex, n2, .inl ⟨ha, fun dx hd hn => k dx hd hn⟩⟩


/-! ### the older view of a value (Okv): the rows proved for it serve Dt, too -/
theorem iteN {p A B : Prop} [Decidable p] (h : ¬ p) (q : B) : if decide p = true then A else B := by
  rw [decide_eq_false h]
  exact iteF q
theorem iteY {p A B : Prop} [Decidable p] (h : p) (q : A) : if decide p = true then A else B := by
  rw [decide_eq_true h]
  exact iteT q
theorem Same.put {H H' : Hp} {p : Addr} {o : HO} (s : Same H H') (h : H p = none) : Same H (upd H' p o) := fun a u e => by
  rw [upd_ne (ne_of_none e h)]
  exact s a u e
def flatT : V → String
  | .bl _ => "bool"
  | .int _ => "int"
  | .str _ => "str"
  | _ => "NoneType"
theorem walk_zipT {K : PySem.W.Frag} {a b : Addr} {xs ys : List V} {n : Nat} (hn : n = min xs.length ys.length) : Walk (RZ.ItzT K a b) n (fun H => SqT K H a xs ∧ SqT K H b ys) (YPair (fun i => xs[i]?) (fun i => ys[i]?)) := by
  subst hn
  refine ⟨fun i _ hi q => ?_, fun _ q => ⟨xs, ys, q.1, q.2, by omega⟩, fun i H v H' _ q y => ?_⟩
  · have h1 : i < xs.length := by omega
    have h2 : i < ys.length := by omega
    exact ⟨xs, ys, xs[i], ys[i], q.1, q.2, by simp [h1], by simp [h2]⟩
  · obtain ⟨T, x, z, h1, h2, h3, h4, h5⟩ := y
    exact ⟨T, x, z, h1, h2, h3, h4 xs q.1, h5 ys q.2⟩
theorem Same.sqT {K : PySem.W.Frag} {H H' : Hp} {a : Addr} {xs : List V} (e : Same H H') (h : SqT K H a xs) : SqT K H' a xs := Go.tS e h
/-- a value of data, n deep at most, none of whose lists is the bag -/
def Okv (K : PySem.W.Frag) (H : Hp) (b : Addr) : Nat → V → Prop
  | 0, v => flatV v = true ∧ ∀ z, v = .str z → StrK z
  | n + 1, v => (flatV v = true ∧ ∀ z, v = .str z → StrK z) ∨ ∃ (a : Addr) (xs : List V), v = .ref a ∧ a ≠ b ∧ (SqL K H a xs ∨ SqT K H a xs) ∧ xs.length ≤ 100000 ∧ ∀ x ∈ xs, Okv K H b n x
theorem Okv.stp {K : PySem.W.Frag} {H H' : Hp} {b : Addr} (s : Stp b H H') : ∀ {n : Nat} {v : V}, Okv K H b n v → Okv K H' b n v
  | 0, _, h => h
  | n + 1, _, .inl h => .inl h
  | n + 1, _, .inr ⟨a, xs, e, ne, h, hl, hx⟩ => .inr ⟨a, xs, e, ne, h.imp (s.sqL ne) (s.sqT ne), hl, fun x m => (hx x m).stp s⟩
theorem Okv.of_flat {K : PySem.W.Frag} {H : Hp} {b : Addr} {n : Nat} {v : V} (h : flatV v = true) (hz : ∀ z, v = .str z → StrK z) : Okv K H b n v := by
  cases n with
  | zero => exact ⟨h, hz⟩
  | succ n => exact .inl ⟨h, hz⟩
theorem Okv.non {K : PySem.W.Frag} {H : Hp} {b : Addr} {n : Nat} : Okv K H b n .non := .of_flat rfl (fun _ e => nomatch e)
theorem Okv.bl {K : PySem.W.Frag} {H : Hp} {b : Addr} {n : Nat} {k : Bool} : Okv K H b n (.bl k) := .of_flat rfl (fun _ e => nomatch e)
theorem Okv.int {K : PySem.W.Frag} {H : Hp} {b : Addr} {n : Nat} {i : Int} : Okv K H b n (.int i) := .of_flat rfl (fun _ e => nomatch e)
theorem Okv.str {K : PySem.W.Frag} {H : Hp} {b : Addr} {n : Nat} {z : Str} (h : StrK z) : Okv K H b n (.str z) := .of_flat rfl (fun _ e => by cases e; exact h)
/-- what kind it is -/
def isS : V → Bool
  | .str _ => true
  | _ => false
def isB : V → Bool
  | .bl _ => true
  | _ => false
def isI : V → Bool
  | .int _ => true
  | .bl _ => true
  | _ => false
theorem Okv.ty {K : PySem.W.Frag} {H : Hp} {b : Addr} {n : Nat} {v : V} (h : Okv K H b n v) : ∃ t, TyX K H v t ∧ PySem.W.kitOne K t (.type "str") = some (isS v) ∧ PySem.W.kitOne K t (.type "bool") = some (isB v) ∧ PySem.W.kitOne K t (.type "int") = some (isI v) := by
  have fl : flatV v = true → ∃ t, TyX K H v t ∧ PySem.W.kitOne K t (.type "str") = some (isS v) ∧ PySem.W.kitOne K t (.type "bool") = some (isB v) ∧ PySem.W.kitOne K t (.type "int") = some (isI v) := fun hf => by
    cases v with
    | non => exact ⟨_, .base .non, kit_ty (by decide +kernel), kit_ty (by decide +kernel), kit_ty (by decide +kernel)⟩
    | bl k => exact ⟨_, .base (.bl k), kit_ty (show kitB "bool" "str" = some false by decide +kernel), kit_ty (show kitB "bool" "bool" = some true by decide +kernel), kit_ty (show kitB "bool" "int" = some true by decide +kernel)⟩
    | int i => exact ⟨_, .base (.int i), kit_ty (show kitB "int" "str" = some false by decide +kernel), kit_ty (show kitB "int" "bool" = some false by decide +kernel), kit_ty (show kitB "int" "int" = some true by decide +kernel)⟩
    | str z => exact ⟨_, .base (.str z), kit_ty (show kitB "str" "str" = some true by decide +kernel), kit_ty (show kitB "str" "bool" = some false by decide +kernel), kit_ty (show kitB "str" "int" = some false by decide +kernel)⟩
    | _ => cases hf
  cases n with
  | zero => exact fl h.1
  | succ n =>
    rcases h with h | ⟨a, xs, rfl, _, h | h, _⟩
    · exact fl h.1
    · exact ⟨_, tyx_l h, kit_ty (show kitB "list" "str" = some false by decide +kernel), kit_ty (show kitB "list" "bool" = some false by decide +kernel), kit_ty (show kitB "list" "int" = some false by decide +kernel)⟩
    · exact ⟨_, tyx_t h, kit_ty (show kitB "tuple" "str" = some false by decide +kernel), kit_ty (show kitB "tuple" "bool" = some false by decide +kernel), kit_ty (show kitB "tuple" "int" = some false by decide +kernel)⟩
theorem Okv.strK {K : PySem.W.Frag} {H : Hp} {b : Addr} {n : Nat} {z : Str} (h : Okv K H b n (.str z)) : StrK z := by
  cases n with
  | zero => exact h.2 z rfl
  | succ n =>
    rcases h with h | ⟨a, xs, e, _⟩
    · exact h.2 z rfl
    · cases e
theorem Okv.short {K : PySem.W.Frag} {H : Hp} {b : Addr} {n : Nat} {z : Str} (h : Okv K H b n (.str z)) : z.cps.size ≤ 100000 := h.strK.1
theorem isS_of {v : V} (h : isS v = true) : ∃ z, v = .str z := by
  cases v with
  | str z => exact ⟨z, rfl⟩
  | _ => cases h
/-! ### names and numbers, as plain functions -/
def inL (c : Nat) : Bool := decide (97 ≤ c) && decide (c ≤ 122)
def nmV : V → Bool
  | .str z => decide (1 ≤ z.cps.size) && decide (z.cps.size ≤ 6) && z.cps.toList.all inL
  | _ => false
def numV (v : V) (lo hi : Int) : Bool := match v with
  | .int i => decide (lo ≤ i) && decide (i ≤ hi)
  | _ => false
def regs : List V := [.str "r0", .str "r1", .str "r2"]
def regV (v : V) : Bool := isS v && inV v regs
theorem lt_sign (c d : Nat) : (([c] : List Nat) < [d]) ↔ c < d := by
  constructor
  · intro h
    cases h with
    | rel h => exact h
    | cons h => cases h
  · intro h
    exact .rel h
theorem le_sign (c d : Nat) : (!decide (([c] : List Nat) < [d])) = decide (d ≤ c) := by
  rw [Bool.eq_iff_iff]
  simp [lt_sign]
theorem cps_a : ("a" : Str).cps.toList = [97] := by decide +kernel
theorem cps_z : ("z" : Str).cps.toList = [122] := by decide +kernel
theorem cps_abc : ("abcdefghijklmnopqrstuvwxyz" : Str).cps.toList = List.range' 97 26 := by decide +kernel
theorem in_abc (c : Nat) : decide (c ∈ ("abcdefghijklmnopqrstuvwxyz" : Str).cps.toList) = inL c := by
  rw [cps_abc, Bool.eq_iff_iff]
  simp [inL, List.mem_range'_1]
  omega
/-- what holds of each answer, told ahead: any extension, then the answer -/
theorem take_snoc {α β : Type} (f : α → β) {l : List α} {i : Nat} {x : α} (h : l[i]? = some x) : (l.take (i + 1)).map f = (l.take i).map f ++ [f x] := by
  rw [List.take_add_one, h, List.map_append]
  rfl

mutual
theorem Dt.okv {K : PySem.W.Frag} {H : Hp} {b : Addr} : ∀ {n : Nat} {v : V} {d : PyData}, Dt K H b v d → dep d ≤ n → Okv K H b n v
  | _, _, _, .non, _ => .non
  | _, _, _, .bl _, _ => .bl
  | _, _, _, .int _, _ => .int
  | _, _, _, .str h, _ => .str h
  | 0, _, _, .lst _ _ _ _, z => absurd z (by simp [dep])
  | n + 1, _, _, .lst h ne l r, z => .inr ⟨_, _, rfl, ne, .inl h, l, DtA.okv r (by simp [dep] at z; omega)⟩
  | 0, _, _, .tup _ _ _ _, z => absurd z (by simp [dep])
  | n + 1, _, _, .tup h ne l r, z => .inr ⟨_, _, rfl, ne, .inr h, l, DtA.okv r (by simp [dep] at z; omega)⟩
theorem DtA.okv {K : PySem.W.Frag} {H : Hp} {b : Addr} : ∀ {n : Nat} {vs : List V} {ds : List PyData}, DtA K H b vs ds → depA ds ≤ n → ∀ x ∈ vs, Okv K H b n x
  | _, _, _, .nil, _ => fun x m => nomatch m
  | n, _, _, .cons h r, z => fun x m => by
    simp [depA] at z
    rcases List.mem_cons.mp m with rfl | m
    · exact Dt.okv h (by omega)
    · exact DtA.okv r (by omega) x m
end

section
variable {P : Program} {w : World} {K : PySem.W.Frag} {mg : Str → Option Value} {base : Heap} {Z : Fs}
/-! ### is_name -/
def sp_is_name (K : PySem.W.Frag) : Sp := fun vs H Q _ => ∃ (v : V) (b : Addr) (n : Nat), vs = [v] ∧ Okv K H b n v ∧ ∀ H' : Hp, Same H H' → Q (.bl (nmV v)) H'
theorem ok_is_name (T : Txt K w mg Z) : FnOk P w K mg base CX0 1 Z.a_is_name Z.d_is_name ["value"] (sp_is_name K) := by
  refine T.F_is_name.ok sc_is_name (fun vs H Q E h => ?_) (fun cdv A outer s H vs Q E hr h => ?_)
  · obtain ⟨v, b, n, rfl, _⟩ := h
    rfl
  · obtain ⟨v, b, n, rfl, ok, k⟩ := h
    refine ⟨_, (pss_cons (ps_if (PW.pt (pw_or (pt_not (pt_val (pe_callB (call_isi : CallR _ _ (rIsi K)) (by rfl) T.n_isinstance boot_isinstance (pa_cons (pv 0) (pa_cons (pe_bltn (v := .ty "str") (by rfl) T.n_str boot_str rfl) pa_nil))))) (pw_or1 (pt_not (pt_chain op_le op_le pe_int (pe_callB (Go.c_len : CallR _ _ (Go.RLen K)) (by rfl) T.n_len boot_len (pa_cons (pv 0) pa_nil)) (pe_glob (v := .int 6) (by rfl) (Classical.choose_spec T.g_MOST_LETTERS) ⟨_, rfl⟩)))))) (pss_one (ps_ret pe_bl)) pss_nil)
      (pss_one (ps_ret (pe_callB (cr_all rfl) (by rfl) T.n_all boot_all (pa_cons (pe_lc (own := [("letter", 1)]) (g := gName 1) (tt := tYes) rfl sc_is_name.nd (pi_str (pv 0)) (blkOk_by (N := N_is_name) (sc := defScope s_is_name) (by decide +kernel)) (fun _ _ _ _ _ => pg_name (i := 1) sc_is_name.nd rfl (Or.inl rfl)) (fun _ _ _ _ _ => pts_nil) (fun _ _ _ _ _ => (pe_chain op_le_str op_le_str pe_str (pv 1) pe_str))) pa_nil))))), ?_⟩
    obtain ⟨t, ty, kS, _, _⟩ := ok.ty
    refine ⟨v, rfl, v, .ty "str", t, _, _, rfl, .ty _, ty, kS, _, rfl, ?_⟩
    cases hv : isS v with
    | false =>
      refine iteT ?_
      have e : nmV v = false := by
        cases v with
        | str z => cases hv
        | _ => rfl
      show Q (.bl false) H
      rw [← e]
      exact k _ (Same.refl _)
    | true =>
      obtain ⟨z, rfl⟩ := isS_of hv
      refine iteF ?_
      refine ⟨.str z, rfl, .str z, z.cps.size, rfl, ⟨Nat.le_trans ok.short (by decide), rfl⟩, _, _, rfl, rfl, _, rfl, ite2 (fun h1 => ?_) (fun h1 => ?_)⟩
      · have h1' : 1 ≤ z.cps.size := by
          have q := of_decide_eq_true h1
          omega
        refine ⟨_, _, rfl, rfl, _, rfl, ?_⟩
        refine ite2 (fun h2 => ?_) (fun h2 => ?_)
        · have e : nmV (.str z) = false := by
            have q : ¬ z.cps.size ≤ 6 := by
              simp at h2
              omega
            simp [nmV, q]
          show Q (.bl false) H
          rw [← e]
          exact k _ (Same.refl _)
        · have q : z.cps.size ≤ 6 := by
            simp at h2
            omega
          refine ⟨.str z, rfl, z, rfl, fun D hD => ?_⟩
          refine lc_it (walk_str (z := z)) (fun i H' => Same H H' ∧ H' D = some (.lst (((z.cps.toList.take i).map inL).map V.bl))) ⟨Same.new hD, upd_same⟩ (fun _ _ _ _ => True.intro) ?_ ?_
          · rintro i v H2 H3 hi ⟨s2, e2⟩ ⟨rfl, c, hc, rfl⟩
            have hc' : z.cps.toList[i]? = some c := by simpa using hc
            refine ⟨rfl, .str ⟨#[c]⟩, rfl, "a", ⟨#[c]⟩, rfl, rfl, _, rfl, ite2 (fun h3 => ?_) (fun h3 => ?_)⟩
            · refine ⟨⟨#[c]⟩, "z", rfl, rfl, _, e2, ?_, Same.put s2 hD, ?_⟩
              · rw [List.length_map, List.length_map, List.length_take]
                exact Nat.lt_of_le_of_lt (Nat.min_le_left _ _) (Nat.lt_of_lt_of_le hi (Nat.le_trans ok.short (by decide)))
              · rw [upd_same, take_snoc inL hc', List.map_append]
                rw [cps_a, le_sign] at h3
                rw [cps_z]
                have e : (!decide (([122] : List Nat) < (⟨#[c]⟩ : Str).cps.toList)) = inL c := by
                  show (!decide (([122] : List Nat) < [c])) = inL c
                  rw [le_sign]
                  simp only [inL]
                  rw [h3]
                  rfl
                rw [e]
                rfl
            · refine ⟨_, e2, ?_, Same.put s2 hD, ?_⟩
              · rw [List.length_map, List.length_map, List.length_take]
                exact Nat.lt_of_le_of_lt (Nat.min_le_left _ _) (Nat.lt_of_lt_of_le hi (Nat.le_trans ok.short (by decide)))
              · rw [upd_same, take_snoc inL hc', List.map_append]
                rw [cps_a, le_sign] at h3
                have e : false = inL c := by
                  have h4 : decide (97 ≤ c) = false := by simpa using h3
                  simp only [inL]
                  rw [h4]
                  rfl
                rw [← e]
                rfl
          · rintro H' ⟨s2, e2⟩
            refine ⟨D, _, rfl, SqL.of e2, ?_⟩
            have e : ((z.cps.toList.take z.cps.size).map inL).all id = nmV (.str z) := by
              rw [List.take_of_length_le (by simp)]
              simp [nmV, h1', q, List.all_map]
            rw [e]
            exact k _ s2
      · refine ⟨_, rfl, iteT ?_⟩
        have e : nmV (.str z) = false := by
          have q : ¬ 1 ≤ z.cps.size := fun q => h1 (decide_eq_true (by omega))
          simp [nmV, q]
        show Q (.bl false) H
        rw [← e]
        exact k _ (Same.refl _)
end

section
variable {P : Program} {w : World} {K : PySem.W.Frag} {mg : Str → Option Value} {base : Heap} {Z : Fs}
def sp_is_register (K : PySem.W.Frag) : Sp := fun vs H Q _ => ∃ (v : V) (b : Addr) (n : Nat), vs = [v] ∧ Okv K H b n v ∧ ∀ H' : Hp, Same H H' → Q (.bl (regV v)) H'
theorem ok_is_register (T : Txt K w mg Z) : FnOk P w K mg base CX0 1 Z.a_is_register Z.d_is_register ["value"] (sp_is_register K) := by
  refine T.F_is_register.ok sc_is_register (fun vs H Q E h => ?_) (fun cdv A outer s H vs Q E hr h => ?_)
  · obtain ⟨v, b, n, rfl, _⟩ := h
    rfl
  · obtain ⟨v, b, n, rfl, ok, k⟩ := h
    refine ⟨_, (pss_one (ps_ret (pe_and (pe_callB (call_isi : CallR _ _ (rIsi K)) (by rfl) T.n_isinstance boot_isinstance (pa_cons (pv 0) (pa_cons (pe_bltn (v := .ty "str") (by rfl) T.n_str boot_str rfl) pa_nil))) (pe_one (pe_cmpR (op_in_seq : OpR _ _ (rIn K false)) (pv 0) (pe_glob (v := .ref Z.c_REGISTERS) (by rfl) T.g_REGISTERS rfl) (by rfl)))))), ?_⟩
    obtain ⟨t, ty, kS, _, _⟩ := ok.ty
    refine ⟨v, rfl, v, .ty "str", t, _, _, rfl, .ty _, ty, kS, _, rfl, ?_⟩
    cases hv : isS v with
    | false =>
      refine iteF ?_
      have e : regV v = false := by simp [regV, hv]
      rw [← e]
      exact k _ (Same.refl _)
    | true =>
      refine iteT ?_
      obtain ⟨z, rfl⟩ := isS_of hv
      refine ⟨.str z, rfl, _, regs, rfl, .inr (T.v_REGISTERS H), rfl, rfl, ?_⟩
      have e : regV (.str z) = inV (.str z) regs := by simp [regV, isS]
      show Q (.bl (inV (.str z) regs)) H
      rw [← e]
      exact k _ (Same.refl _)
end

section
variable {P : Program} {w : World} {K : PySem.W.Frag} {mg : Str → Option Value} {base : Heap} {Z : Fs}
def sp_is_numberO (K : PySem.W.Frag) : Sp := fun vs H Q _ => ∃ (v : V) (lo hi : Int) (b : Addr) (n : Nat), vs = [v, .int lo, .int hi] ∧ Okv K H b n v ∧ ∀ H' : Hp, Same H H' → Q (.bl (numV v lo hi)) H'
theorem ok_is_numberO (T : Txt K w mg Z) : FnOk P w K mg base CX0 1 Z.a_is_number Z.d_is_number ["value", "least", "most"] (sp_is_numberO K) := by
  refine T.F_is_number.ok sc_is_number (fun vs H Q E h => ?_) (fun cdv A outer s H vs Q E hr h => ?_)
  · obtain ⟨v, lo, hi, b, n, rfl, _⟩ := h
    rfl
  · obtain ⟨v, lo, hi, b, n, rfl, ok, k⟩ := h
    refine ⟨_, (pss_cons (ps_if (PW.pt (pw_or (pt_val (pe_callB (call_isi : CallR _ _ (rIsi K)) (by rfl) T.n_isinstance boot_isinstance (pa_cons (pv 0) (pa_cons (pe_bltn (v := .ty "bool") (by rfl) T.n_bool boot_bool rfl) pa_nil)))) (pw_or1 (pt_not (pt_val (pe_callB (call_isi : CallR _ _ (rIsi K)) (by rfl) T.n_isinstance boot_isinstance (pa_cons (pv 0) (pa_cons (pe_bltn (v := .ty "int") (by rfl) T.n_int boot_int rfl) pa_nil)))))))) (pss_one (ps_ret pe_bl)) pss_nil)
      (pss_one (ps_ret (pe_chain op_le op_le (pv 1) (pv 0) (pv 2))))), ?_⟩
    obtain ⟨t, ty, _, kB, kI⟩ := ok.ty
    refine ⟨v, rfl, v, .ty "bool", t, _, _, rfl, .ty _, ty, kB, _, rfl, ?_⟩
    have no : (∀ i, v ≠ .int i) → Q (.bl false) H := fun hn => by
      have e : numV v lo hi = false := by
        cases v with
        | int i => exact absurd rfl (hn i)
        | _ => rfl
      rw [← e]
      exact k _ (Same.refl _)
    cases hb : isB v with
    | true =>
      refine iteT (iteT (no fun i e => ?_))
      rw [e] at hb
      cases hb
    | false =>
      refine iteF ?_
      refine ⟨v, rfl, v, .ty "int", t, _, _, rfl, .ty _, ty, kI, _, rfl, ?_⟩
      cases hi' : isI v with
      | false =>
        refine iteT (no fun i e => ?_)
        rw [e] at hi'
        cases hi'
      | true =>
        refine iteF ?_
        obtain ⟨i, rfl⟩ : ∃ i, v = .int i := by
          cases v with
          | int i => exact ⟨i, rfl⟩
          | bl _ => cases hb
          | _ => cases hi'
        refine ⟨.int lo, rfl, .int i, rfl, _, _, rfl, rfl, _, rfl, ite2 (fun h1 => ?_) (fun h1 => ?_)⟩
        · refine ⟨.int hi, rfl, _, _, rfl, rfl, ?_⟩
          have e : numV (.int i) lo hi = decide (i ≤ hi) := by simp [numV, of_decide_eq_true h1]
          show Q (.bl (decide (i ≤ hi))) H
          rw [← e]
          exact k _ (Same.refl _)
        · have e : numV (.int i) lo hi = false := by
            have q : ¬ lo ≤ i := fun q => h1 (decide_eq_true q)
            simp [numV, q]
          show Q (.bl false) H
          rw [← e]
          exact k _ (Same.refl _)
end

/-! ### rows judged, as plain functions -/
def kindsL : List Str := ["R", "N", "n", "d", "k"]
def bnd (q : Str) : Int × Int := if q = "n" then (0, 65535) else if q = "d" then (0, 15) else (1, 120)
def fitV (q : Str) (x : V) : Bool := if q = "R" then regV x else if q = "N" then nmV x else numV x (bnd q).1 (bnd q).2
def fitA (xs : List V) (ks : List Str) : Bool := decide (xs.length = ks.length) && (List.zipWith fitV ks xs).all id
/-- the string of a kind -/
def kst (ks : List Str) : List V := ks.map V.str
/-- a value that is a tuple of xs, or none -/
def Tp (K : PySem.W.Frag) (H : Hp) (b : Addr) (n : Nat) (v : V) : Option (List V) → Prop
  | some xs => ∃ a, v = .ref a ∧ SqT K H a xs ∧ xs.length ≤ 100000 ∧ ∀ x ∈ xs, Okv K H b n x
  | none => ∃ t, TyX K H v t ∧ PySem.W.kitOne K t (.type "tuple") = some false
theorem TyX.same {K : PySem.W.Frag} {H H' : Hp} {v : V} {t : Value} (s : Same H H') (h : TyX K H v t) : TyX K H' v t := by
  cases h with
  | base h =>
    cases h with
    | non => exact .base .non
    | bl x => exact .base (.bl x)
    | int i => exact .base (.int i)
    | str x => exact .base (.str x)
    | flt x => exact .base (.flt x)
    | lst e => exact .base (.lst (s _ _ e))
    | frz e => exact .base (.frz (s _ _ e))
    | tup e => exact .base (.tup (s _ _ e))
    | dK e => exact .base (.dK (s _ _ e))
    | dT e => exact .base (.dT (s _ _ e))
    | ins e cl ha hn htk hm => exact .base (.ins (s _ _ e) cl ha hn htk hm)
  | byt b => exact .byt b
  | set e => exact .set (s _ _ e)
  | kList e c => exact .kList e c
  | kTuple e c => exact .kTuple e c
  | kDict e c => exact .kDict e c
  | fTuple e => exact .fTuple (s _ _ e)
  | fDict e => exact .fDict (s _ _ e)
theorem Tp.same {K : PySem.W.Frag} {H H' : Hp} {b : Addr} {n : Nat} {v : V} {o : Option (List V)} (s : Same H H') (h : Tp K H b n v o) : Tp K H' b n v o := by
  cases o with
  | some xs =>
    obtain ⟨a, e, h1, h2, h3⟩ := h
    exact ⟨a, e, Same.sqT s h1, h2, fun x m => (h3 x m).stp (Same.stp s)⟩
  | none =>
    obtain ⟨t, h1, h2⟩ := h
    exact ⟨t, TyX.same s h1, h2⟩
/-- the word that a tuple begins with -/
def hdS : Option (List V) → Str
  | some (.str u :: _) => u
  | _ => ""
def tlS : Option (List V) → List V
  | some (_ :: r) => r
  | _ => []
def kS : List V → List Str
  | [] => []
  | .str z :: r => z :: kS r
  | _ :: r => kS r
def codeO (o : Option (List V)) : Bool := match findT tb_CODE_ROWS (hdS o) with
  | some ks => fitA (tlS o) (kS ks)
  | none => false
def dataO (o : Option (List V)) : Bool := match findT tb_DATA_ROWS (hdS o) with
  | some ks => fitA (tlS o) (kS ks)
  | none => false
theorem code_kinds {z : Str} {ks : List V} (h : findT tb_CODE_ROWS z = some ks) : ks = kst (kS ks) ∧ (∀ q ∈ kS ks, q ∈ kindsL) ∧ (kS ks).length ≤ 10 ∧ z ≠ "" := by
  unfold findT at h
  cases e : tb_CODE_ROWS.find? (fun p => decide (p.1 = z)) with
  | none => rw [e] at h; cases h
  | some p =>
    rw [e] at h
    have hm := List.mem_of_find?_eq_some e
    have hz : p.1 = z := of_decide_eq_true (List.find?_some (p := fun p : Str × List V => decide (p.1 = z)) e)
    have hk : p.2 = ks := Option.some.inj h
    subst hz hk
    have all : ∀ p ∈ tb_CODE_ROWS, p.2 = kst (kS p.2) ∧ (∀ q ∈ kS p.2, q ∈ kindsL) ∧ (kS p.2).length ≤ 10 ∧ p.1 ≠ "" := by decide +kernel
    exact all p hm
theorem data_kinds {z : Str} {ks : List V} (h : findT tb_DATA_ROWS z = some ks) : ks = kst (kS ks) ∧ (∀ q ∈ kS ks, q ∈ kindsL) ∧ (kS ks).length ≤ 10 ∧ z ≠ "" := by
  unfold findT at h
  cases e : tb_DATA_ROWS.find? (fun p => decide (p.1 = z)) with
  | none => rw [e] at h; cases h
  | some p =>
    rw [e] at h
    have hm := List.mem_of_find?_eq_some e
    have hz : p.1 = z := of_decide_eq_true (List.find?_some (p := fun p : Str × List V => decide (p.1 = z)) e)
    have hk : p.2 = ks := Option.some.inj h
    subst hz hk
    have all : ∀ p ∈ tb_DATA_ROWS, p.2 = kst (kS p.2) ∧ (∀ q ∈ kS p.2, q ∈ kindsL) ∧ (kS p.2).length ≤ 10 ∧ p.1 ≠ "" := by decide +kernel
    exact all p hm
theorem relO_d {α : Type} {R : α → Value → Prop} {v : Option α} {r : Option Value} (h : RelOpt R v r) : r.isSome = v.isSome ∧ ∀ i, v = some i → ∃ u, r = some u ∧ R i u := by
  cases v with
  | none =>
    cases r with
    | none => exact ⟨rfl, fun i e => nomatch e⟩
    | some u => exact h.elim
  | some i =>
    cases r with
    | none => exact h.elim
    | some u => exact ⟨rfl, fun j e => by cases e; exact ⟨u, rfl, h⟩⟩
theorem cut_tl (x : V) (r : List V) : cutV (x :: r) (some 1) none = r := by
  unfold cutV
  rw [show HT.sIx (x :: r).length 0 (some 1) = min 1 (x :: r).length from HT.sIx_nat _ 0 1, HT.sIx_none]
  rw [show min 1 (x :: r).length = 1 by rw [List.length_cons]; omega]
  show (r.take ((x :: r).length - 1)) = r
  rw [List.length_cons, Nat.add_sub_cancel, List.take_length]
section
variable {P : Program} {w : World} {K : PySem.W.Frag} {mg : Str → Option Value} {base : Heap} {Z : Fs}
/-! ### _fits, _fit -/
def sp_fits (K : PySem.W.Frag) : Sp := fun vs H Q _ => ∃ (x : V) (q : Str) (b : Addr) (n : Nat), vs = [x, .str q] ∧ Okv K H b n x ∧ q ∈ kindsL ∧ ∀ H' : Hp, Same H H' → Q (.bl (fitV q x)) H'
theorem ok_fits (T : Txt K w mg Z) : FnOk P w K mg base CX0 2 Z.a_fits Z.d_fits ["item", "kind"] (sp_fits K) := by
  have G_is_register : FnOk P w K mg base CX0 1 Z.a_is_register Z.d_is_register ["value"] (sp_is_register K) := ok_is_register T
  have G_is_name : FnOk P w K mg base CX0 1 Z.a_is_name Z.d_is_name ["value"] (sp_is_name K) := ok_is_name T
  have G_is_number : FnOk P w K mg base CX0 1 Z.a_is_number Z.d_is_number ["value", "least", "most"] (sp_is_numberO K) := ok_is_numberO T
  refine T.F_fits.ok sc_fits (fun vs H Q E h => ?_) (fun cdv A outer s H vs Q E hr h => ?_)
  · obtain ⟨x, q, b, n, rfl, _⟩ := h
    rfl
  · obtain ⟨x, q, b, n, rfl, ok, hq, k⟩ := h
    refine ⟨_, (pss_cons (ps_if (pt_cmpR op_eq (pv 1) pe_str (nomark _)) (pss_one (ps_ret (pe_call G_is_register (hr.mono (by omega)) (by rfl) T.m_is_register T.F_is_register.kp T.b_is_register .nil pass0 (pa_cons (pv 0) pa_nil)))) pss_nil)
      (pss_cons (ps_if (pt_cmpR op_eq (pv 1) pe_str (nomark _)) (pss_one (ps_ret (pe_call G_is_name (hr.mono (by omega)) (by rfl) T.m_is_name T.F_is_name.kp T.b_is_name .nil pass0 (pa_cons (pv 0) pa_nil)))) pss_nil)
      (pss_cons (ps_asg (pe_ix ix_kdict (pe_glob (v := .ref Z.c_BOUNDS) (by rfl) T.g_BOUNDS rfl) (pv 1) (fun _ _ => rfl)) (pg_tup (by rfl) (pgs_cons (pg_name (i := 2) sc_fits.nd rfl (Or.inl rfl)) (pgs_cons (pg_name (i := 3) sc_fits.nd rfl (Or.inl rfl)) pgs_nil))))
      (pss_one (ps_ret (pe_call G_is_number (hr.mono (by omega)) (by rfl) T.m_is_number T.F_is_number.kp T.b_is_number .nil pass0 (pa_cons (pv 0) (pa_cons (pv 2) (pa_cons (pv 3) pa_nil))))))))), ?_⟩
    refine ⟨.str q, rfl, rfl, _, rfl, ite2 (fun h1 => ?_) (fun h1 => ?_)⟩
    · have e1 : q = "R" := V.str.inj (of_decide_eq_true h1)
      refine ⟨x, rfl, x, b, n, rfl, ok, fun H' s' => ?_⟩
      have e : fitV q x = regV x := by
        unfold fitV
        rw [if_pos e1]
      rw [← e]
      exact k _ s'
    have e1 : q ≠ "R" := fun e => h1 (decide_eq_true (by rw [e]))
    refine ⟨.str q, rfl, rfl, _, rfl, ite2 (fun h2 => ?_) (fun h2 => ?_)⟩
    · have e2 : q = "N" := V.str.inj (of_decide_eq_true h2)
      refine ⟨x, rfl, x, b, n, rfl, ok, fun H' s' => ?_⟩
      have e : fitV q x = nmV x := by
        unfold fitV
        rw [if_neg e1, if_pos e2]
      rw [← e]
      exact k _ s'
    have e2 : q ≠ "N" := fun e => h2 (decide_eq_true (by rw [e]))
    obtain ⟨r, q1, q2⟩ := T.x_BOUNDS q
    obtain ⟨_, i2⟩ := relO_d q2
    have hb : findT tb_BOUNDS q = some [.int (bnd q).1, .int (bnd q).2] := by
      have all : ∀ q ∈ kindsL, q ≠ "R" → q ≠ "N" → findT tb_BOUNDS q = some [.int (bnd q).1, .int (bnd q).2] := by decide +kernel
      exact all q hq e1 e2
    obtain ⟨u, rfl, t, rfl, ht⟩ := i2 _ hb
    refine ⟨.str q, rfl, _, q, .ref t, rfl, rfl, ⟨_, _, _, T.D_BOUNDS.at_, T.D_BOUNDS.lit, q1, rfl⟩, t, _, rfl, ht H, rfl, _, _, rfl, _, _, rfl, rfl, ?_⟩
    refine ⟨x, rfl, _, rfl, _, rfl, x, _, _, b, n, rfl, ok, fun H' s' => ?_⟩
    have e : fitV q x = numV x (bnd q).1 (bnd q).2 := by
      unfold fitV
      rw [if_neg e1, if_neg e2]
    rw [← e]
    exact k _ s'
def sp_fit (K : PySem.W.Frag) : Sp := fun vs H Q _ => ∃ (a c : Addr) (xs : List V) (ks : List Str) (b : Addr) (n : Nat), vs = [.ref a, .ref c] ∧ SqT K H a xs ∧ SqT K H c (kst ks) ∧ (∀ x ∈ xs, Okv K H b n x) ∧ (∀ q ∈ ks, q ∈ kindsL) ∧ ks.length ≤ 10 ∧ ∀ H' : Hp, Same H H' → Q (.bl (fitA xs ks)) H'
theorem ok_fit (T : Txt K w mg Z) : FnOk P w K mg base CX0 3 Z.a_fit Z.d_fit ["items", "kinds"] (sp_fit K) := by
  have G_fits : FnOk P w K mg base CX0 2 Z.a_fits Z.d_fits ["item", "kind"] (sp_fits K) := ok_fits T
  refine T.F_fit.ok sc_fit (fun vs H Q E h => ?_) (fun cdv A outer s H vs Q E hr h => ?_)
  · obtain ⟨a, c, xs, ks, b, n, rfl, _⟩ := h
    rfl
  · obtain ⟨a, c, xs, ks, b, n, rfl, hx, hc, ok, hk, hl, k⟩ := h
    refine ⟨_, (pss_cons (ps_if (pt_cmpR op_ne (pe_callB (Go.c_len : CallR _ _ (Go.RLen K)) (by rfl) T.n_len boot_len (pa_cons (pv 0) pa_nil)) (pe_callB (Go.c_len : CallR _ _ (Go.RLen K)) (by rfl) T.n_len boot_len (pa_cons (pv 1) pa_nil)) (nomark _)) (pss_one (ps_ret pe_bl)) pss_nil)
      (pss_one (ps_ret (pe_callB (cr_all rfl) (by rfl) T.n_all boot_all (pa_cons (pe_lc (own := [("item", 2), ("kind", 3)]) (g := gTup K 2 (gCons (gName 2) (gCons (gName 3) gNil))) (tt := tYes) rfl sc_fit.nd (RZ.pi_zipA (by rfl) T.n_zip (pa_cons (pv 0) (pa_cons (pv 1) pa_nil))) (blkOk_by (N := N_fit) (sc := defScope s_fit) (by decide +kernel)) (fun _ _ _ _ _ => pg_tup rfl (pgs_cons (pg_name (i := 2) sc_fit.nd rfl (Or.inl rfl)) (pgs_cons (pg_name (i := 3) sc_fit.nd rfl (Or.inl rfl)) pgs_nil))) (fun _ _ _ _ _ => pts_nil) (fun _ _ _ _ _ => (pe_call G_fits (hr.mono (by omega)) (by rfl) T.m_fits T.F_fits.kp T.b_fits .nil pass0 (pa_cons (pv 2) (pa_cons (pv 3) pa_nil))))) pa_nil))))), ?_⟩
    refine ⟨.ref a, rfl, .ref a, xs.length, rfl, .inr ⟨_, hx, rfl⟩, .ref c, rfl, .ref c, (kst ks).length, rfl, .inr ⟨_, hc, rfl⟩, rfl, _, rfl, ?_⟩
    have lk : (kst ks).length = ks.length := List.length_map ..
    by_cases he : xs.length = ks.length
    · have e0 : (!decide (V.int (xs.length : Int) = V.int ((kst ks).length : Int))) = false := by simp [lk, he]
      rw [e0]
      refine iteF ⟨.ref a, rfl, .ref c, rfl, a, c, xs, kst ks, rfl, .inr ⟨hx, hc, fun D hD => ?_⟩⟩
      refine lc_it (walk_zipT (K := K) (xs := xs) (ys := kst ks) (n := xs.length) (by omega)) (fun i H' => Same H H' ∧ H' D = some (.lst (((List.zipWith fitV ks xs).take i).map V.bl))) ⟨Same.new hD, upd_same⟩ (fun i H' _ q => ⟨Same.sqT q.1 hx, Same.sqT q.1 hc⟩) ?_ ?_
      · rintro i v H2 H3 hi' ⟨s2, e2⟩ ⟨T', u, t, rfl, hT, rfl, hu, ht⟩
        obtain ⟨q, hq, rfl⟩ : ∃ q, ks[i]? = some q ∧ t = .str q := by
          have ht : (kst ks)[i]? = some t := ht
          unfold kst at ht
          rw [List.getElem?_map] at ht
          cases e : ks[i]? with
          | none => rw [e] at ht; cases ht
          | some q => rw [e] at ht; exact ⟨q, rfl, (Option.some.inj ht).symm⟩
        have hu : xs[i]? = some u := hu
        refine ⟨T', [u, .str q], rfl, SqT.of upd_same, rfl, u, [.str q], rfl, .str q, [], rfl, rfl, rfl, u, rfl, .str q, rfl, u, q, b, n, rfl, ((ok u (List.mem_of_getElem? hu)).stp (Same.stp s2)).stp (Stp.new hT), hk q (List.mem_of_getElem? hq), fun H4 s4 => ?_⟩
        have nDT : D ≠ T' := ne_of_none e2 hT
        refine ⟨_, s4 _ _ (by rw [upd_ne nDT]; exact e2), ?_, Same.put ((s2.trans (Same.new hT)).trans s4) hD, ?_⟩
        · rw [List.length_map, List.length_take]
          exact Nat.lt_of_le_of_lt (Nat.min_le_left _ _) (Nat.lt_of_lt_of_le hi' (Nat.le_trans (show xs.length ≤ 10 by omega) (by decide)))
        · have hz : (List.zipWith fitV ks xs)[i]? = some (fitV q u) := by
            rw [List.getElem?_zipWith, hq, hu]
          rw [upd_same, List.take_add_one, hz, List.map_append]
          rfl
      · rintro H' ⟨s2, e2⟩
        refine ⟨D, _, rfl, SqL.of e2, ?_⟩
        have e : ((List.zipWith fitV ks xs).take xs.length).all id = fitA xs ks := by
          rw [List.take_of_length_le (by rw [List.length_zipWith]; omega)]
          unfold fitA
          rw [decide_eq_true he, Bool.true_and]
        rw [e]
        exact k _ s2
    · have e0 : (!decide (V.int (xs.length : Int) = V.int ((kst ks).length : Int))) = true := by
        rw [lk]
        simp
        omega
      rw [e0]
      refine iteT ?_
      have e : fitA xs ks = false := by
        unfold fitA
        rw [decide_eq_false he, Bool.false_and]
      show Q (.bl false) H
      rw [← e]
      exact k _ (Same.refl _)
/-! ### _word_of, is_code_row, is_data_row -/
def sp_word_of (K : PySem.W.Frag) : Sp := fun vs H Q _ => ∃ (v : V) (b : Addr) (n : Nat) (o : Option (List V)), vs = [v] ∧ Tp K H b n v o ∧ ∀ H' : Hp, Same H H' → Q (.str (hdS o)) H'
theorem ok_word_of (T : Txt K w mg Z) : FnOk P w K mg base CX0 1 Z.a_word_of Z.d_word_of ["value"] (sp_word_of K) := by
  refine T.F_word_of.ok sc_word_of (fun vs H Q E h => ?_) (fun cdv A outer s H vs Q E hr h => ?_)
  · obtain ⟨v, b, n, o, rfl, _⟩ := h
    rfl
  · obtain ⟨v, b, n, o, rfl, tp, k⟩ := h
    refine ⟨_, (pss_cons (ps_if (PW.pt (pw_and (pt_val (pe_callB (call_isi : CallR _ _ (rIsi K)) (by rfl) T.n_isinstance boot_isinstance (pa_cons (pv 0) (pa_cons (pe_bltn (v := .ty "tuple") (by rfl) T.n_tuple boot_tuple rfl) pa_nil)))) (pw_and (pt_cmpR op_gt (pe_callB (Go.c_len : CallR _ _ (Go.RLen K)) (by rfl) T.n_len boot_len (pa_cons (pv 0) pa_nil)) pe_int (nomark _)) (pw_and1 (pt_val (pe_callB (call_isi : CallR _ _ (rIsi K)) (by rfl) T.n_isinstance boot_isinstance (pa_cons (pe_ix (ix_tup : IxR _ (rIxT K)) (pv 0) pe_int (fun _ _ => rfl)) (pa_cons (pe_bltn (v := .ty "str") (by rfl) T.n_str boot_str rfl) pa_nil)))))))) (pss_one (ps_ret (pe_ix (ix_tup : IxR _ (rIxT K)) (pv 0) pe_int (fun _ _ => rfl)))) pss_nil)
      (pss_one (ps_ret pe_str))), ?_⟩
    cases o with
    | none =>
      obtain ⟨t, ty, kt⟩ := tp
      exact ⟨v, rfl, v, .ty "tuple", t, _, _, rfl, .ty _, ty, kt, _, rfl, iteF (iteF (k _ (Same.refl _)))⟩
    | some xs =>
      obtain ⟨a, rfl, hx, hl, ok⟩ := tp
      refine ⟨.ref a, rfl, .ref a, .ty "tuple", _, _, true, rfl, .ty _, tyx_t hx, kit_ty (by decide +kernel), _, rfl, iteT ?_⟩
      refine ⟨.ref a, rfl, .ref a, xs.length, rfl, .inr ⟨_, hx, rfl⟩, _, _, rfl, rfl, _, rfl, ?_⟩
      cases xs with
      | nil => exact iteF (iteF (k _ (Same.refl _)))
      | cons x r =>
        refine iteY (by simp) ?_
        obtain ⟨t, ty, kS', _, _⟩ := (ok x (List.mem_cons_self ..)).ty
        refine ⟨.ref a, rfl, a, _, 0, x, rfl, rfl, hx, atI_nat (j := 0) rfl, x, .ty "str", t, _, _, rfl, .ty _, ty, kS', _, rfl, ?_⟩
        cases hv : isS x with
        | true =>
          obtain ⟨z, rfl⟩ := isS_of hv
          exact iteT ⟨.ref a, rfl, a, _, 0, .str z, rfl, rfl, hx, atI_nat (j := 0) rfl, k _ (Same.refl _)⟩
        | false =>
          refine iteF ?_
          have e : hdS (some (x :: r)) = "" := by
            cases x with
            | str z => cases hv
            | _ => rfl
          show Q (.str "") H
          rw [← e]
          exact k _ (Same.refl _)
def sp_is_code_row (K : PySem.W.Frag) : Sp := fun vs H Q _ => ∃ (v : V) (b : Addr) (n : Nat) (o : Option (List V)), vs = [v] ∧ Tp K H b n v o ∧ ∀ H' : Hp, Same H H' → Q (.bl (codeO o)) H'
theorem hd_some {o : Option (List V)} (h : hdS o ≠ "") : ∃ r, o = some (.str (hdS o) :: r) ∧ tlS o = r := by
  match o, h with
  | some (.str u :: r), _ => exact ⟨r, rfl, rfl⟩
  | some [], h => exact absurd rfl h
  | none, h => exact absurd rfl h
  | some (.non :: _), h => exact absurd rfl h
  | some (.bl _ :: _), h => exact absurd rfl h
  | some (.int _ :: _), h => exact absurd rfl h
  | some (.byt _ :: _), h => exact absurd rfl h
  | some (.flt _ :: _), h => exact absurd rfl h
  | some (.ref _ :: _), h => exact absurd rfl h
  | some (.ty _ :: _), h => exact absurd rfl h
theorem ok_is_code_row (T : Txt K w mg Z) : FnOk P w K mg base CX0 4 Z.a_is_code_row Z.d_is_code_row ["value"] (sp_is_code_row K) := by
  have G_word_of : FnOk P w K mg base CX0 1 Z.a_word_of Z.d_word_of ["value"] (sp_word_of K) := ok_word_of T
  have G_fit : FnOk P w K mg base CX0 3 Z.a_fit Z.d_fit ["items", "kinds"] (sp_fit K) := ok_fit T
  refine T.F_is_code_row.ok sc_is_code_row (fun vs H Q E h => ?_) (fun cdv A outer s H vs Q E hr h => ?_)
  · obtain ⟨v, b, n, o, rfl, _⟩ := h
    rfl
  · obtain ⟨v, b, n, o, rfl, tp, k⟩ := h
    refine ⟨_, (pss_cons (ps_set (i := 1) sc_is_code_row.nd rfl (Or.inl rfl) (pe_call G_word_of (hr.mono (by omega)) (by rfl) T.m_word_of T.F_word_of.kp T.b_word_of .nil pass0 (pa_cons (pv 0) pa_nil)))
      (pss_one (ps_ret (pe_and (pe_cmpR (op_in_kd T.D_CODE_ROWS) (pv 1) (pe_glob (v := .ref Z.c_CODE_ROWS) (by rfl) T.g_CODE_ROWS rfl) (by rfl)) (pe_one (pe_call G_fit (hr.mono (by omega)) (by rfl) T.m_fit T.F_fit.kp T.b_fit .nil pass0 (pa_cons (pe_slice (sl_tup : SlR _ (rSlT K)) (pv 0) (po_some pe_int) po_none) (pa_cons (pe_ix ix_kdict (pe_glob (v := .ref Z.c_CODE_ROWS) (by rfl) T.g_CODE_ROWS rfl) (pv 1) (fun _ _ => rfl)) pa_nil)))))))), ?_⟩
    refine ⟨v, rfl, v, b, n, o, rfl, tp, fun H1 s1 => ?_⟩
    obtain ⟨r, q1, q2⟩ := T.x_CODE_ROWS (hdS o)
    obtain ⟨i1, i2⟩ := relO_d q2
    refine ⟨_, rfl, _, r, rfl, rfl, q1, _, rfl, ?_⟩
    rw [i1]
    cases hf : findT tb_CODE_ROWS (hdS o) with
    | none =>
      refine iteF ?_
      have e : codeO o = false := by
        unfold codeO
        rw [hf]
      rw [← e]
      exact k _ s1
    | some ks =>
      refine iteT ?_
      obtain ⟨c1, c2, c3, c4⟩ := code_kinds hf
      obtain ⟨rr, ho, htl⟩ := hd_some c4
      obtain ⟨u, rfl, t, rfl, ht⟩ := i2 _ hf
      rw [ho] at tp
      obtain ⟨a, rfl, hx, hl, ok⟩ := tp
      refine ⟨.ref a, rfl, 1, rfl, a, _, rfl, Same.sqT s1 hx, ?_, fun p hp => ?_⟩
      · rintro ⟨z, _⟩
        rw [show HT.sIx (V.str (hdS o) :: rr).length 0 (some 1) = min 1 (V.str (hdS o) :: rr).length from HT.sIx_nat _ 0 1, List.length_cons] at z
        omega
      · rw [cut_tl]
        have s2 : Same H1 (upd H1 p (.tup rr)) := Same.new hp
        have e2 : (upd H1 p (.tup rr)) p = some (.tup rr) := upd_same
        generalize upd H1 p (.tup rr) = H2 at s2 e2 ⊢
        refine ⟨_, rfl, _, hdS o, .ref t, rfl, rfl, ⟨_, _, _, T.D_CODE_ROWS.at_, T.D_CODE_ROWS.lit, q1, rfl⟩, p, t, rr, kS ks, b, n, rfl, SqT.of e2, (by rw [← c1]; exact ht H2), fun x m => ((ok x (List.mem_cons_of_mem _ m)).stp (Same.stp s1)).stp (Same.stp s2), c2, c3, fun H3 s3 => ?_⟩
        have e : codeO o = fitA rr (kS ks) := by
          unfold codeO
          rw [hf, htl]
        rw [← e]
        exact k _ ((s1.trans s2).trans s3)
def sp_is_data_row (K : PySem.W.Frag) : Sp := fun vs H Q _ => ∃ (v : V) (b : Addr) (n : Nat) (o : Option (List V)), vs = [v] ∧ Tp K H b n v o ∧ ∀ H' : Hp, Same H H' → Q (.bl (dataO o)) H'
theorem ok_is_data_row (T : Txt K w mg Z) : FnOk P w K mg base CX0 4 Z.a_is_data_row Z.d_is_data_row ["value"] (sp_is_data_row K) := by
  have G_word_of : FnOk P w K mg base CX0 1 Z.a_word_of Z.d_word_of ["value"] (sp_word_of K) := ok_word_of T
  have G_fit : FnOk P w K mg base CX0 3 Z.a_fit Z.d_fit ["items", "kinds"] (sp_fit K) := ok_fit T
  refine T.F_is_data_row.ok sc_is_data_row (fun vs H Q E h => ?_) (fun cdv A outer s H vs Q E hr h => ?_)
  · obtain ⟨v, b, n, o, rfl, _⟩ := h
    rfl
  · obtain ⟨v, b, n, o, rfl, tp, k⟩ := h
    refine ⟨_, (pss_cons (ps_set (i := 1) sc_is_data_row.nd rfl (Or.inl rfl) (pe_call G_word_of (hr.mono (by omega)) (by rfl) T.m_word_of T.F_word_of.kp T.b_word_of .nil pass0 (pa_cons (pv 0) pa_nil)))
      (pss_one (ps_ret (pe_and (pe_cmpR (op_in_kd T.D_DATA_ROWS) (pv 1) (pe_glob (v := .ref Z.c_DATA_ROWS) (by rfl) T.g_DATA_ROWS rfl) (by rfl)) (pe_one (pe_call G_fit (hr.mono (by omega)) (by rfl) T.m_fit T.F_fit.kp T.b_fit .nil pass0 (pa_cons (pe_slice (sl_tup : SlR _ (rSlT K)) (pv 0) (po_some pe_int) po_none) (pa_cons (pe_ix ix_kdict (pe_glob (v := .ref Z.c_DATA_ROWS) (by rfl) T.g_DATA_ROWS rfl) (pv 1) (fun _ _ => rfl)) pa_nil)))))))), ?_⟩
    refine ⟨v, rfl, v, b, n, o, rfl, tp, fun H1 s1 => ?_⟩
    obtain ⟨r, q1, q2⟩ := T.x_DATA_ROWS (hdS o)
    obtain ⟨i1, i2⟩ := relO_d q2
    refine ⟨_, rfl, _, r, rfl, rfl, q1, _, rfl, ?_⟩
    rw [i1]
    cases hf : findT tb_DATA_ROWS (hdS o) with
    | none =>
      refine iteF ?_
      have e : dataO o = false := by
        unfold dataO
        rw [hf]
      rw [← e]
      exact k _ s1
    | some ks =>
      refine iteT ?_
      obtain ⟨c1, c2, c3, c4⟩ := data_kinds hf
      obtain ⟨rr, ho, htl⟩ := hd_some c4
      obtain ⟨u, rfl, t, rfl, ht⟩ := i2 _ hf
      rw [ho] at tp
      obtain ⟨a, rfl, hx, hl, ok⟩ := tp
      refine ⟨.ref a, rfl, 1, rfl, a, _, rfl, Same.sqT s1 hx, ?_, fun p hp => ?_⟩
      · rintro ⟨z, _⟩
        rw [show HT.sIx (V.str (hdS o) :: rr).length 0 (some 1) = min 1 (V.str (hdS o) :: rr).length from HT.sIx_nat _ 0 1, List.length_cons] at z
        omega
      · rw [cut_tl]
        have s2 : Same H1 (upd H1 p (.tup rr)) := Same.new hp
        have e2 : (upd H1 p (.tup rr)) p = some (.tup rr) := upd_same
        generalize upd H1 p (.tup rr) = H2 at s2 e2 ⊢
        refine ⟨_, rfl, _, hdS o, .ref t, rfl, rfl, ⟨_, _, _, T.D_DATA_ROWS.at_, T.D_DATA_ROWS.lit, q1, rfl⟩, p, t, rr, kS ks, b, n, rfl, SqT.of e2, (by rw [← c1]; exact ht H2), fun x m => ((ok x (List.mem_cons_of_mem _ m)).stp (Same.stp s1)).stp (Same.stp s2), c2, c3, fun H3 s3 => ?_⟩
        have e : dataO o = fitA rr (kS ks) := by
          unfold dataO
          rw [hf, htl]
        rw [← e]
        exact k _ ((s1.trans s2).trans s3)
end

open Lend LamX NdefX SupX
theorem inV_str {z : Str} : ∀ {l : List Str}, inV (.str z) (l.map V.str) = l.contains z := by
  intro l
  induction l with
  | nil => rfl
  | cons a r ih =>
    show (eqV (.str a) (.str z) || inV (.str z) (r.map V.str)) = _
    rw [ih, List.contains_cons]
    have e : eqV (.str a) (.str z) = (z == a) := by
      show (a == z) = (z == a)
      rw [Bool.eq_iff_iff]
      constructor
      · intro h
        exact beq_iff_eq.mpr (eq_of_beq h).symm
      · intro h
        exact beq_iff_eq.mpr (eq_of_beq h).symm
    rw [e]
theorem inT {K : PySem.W.Frag} {neg : Bool} {H : Hp} {z : Str} {p : Addr} {l : List Str} {b : Bool} {Q : VK} (h : SqT K H p (l.map V.str)) (e : l.contains z = b) (q : Q (.bl (if neg = true then !b else b)) H) : rIn K neg (.str z) (.ref p) H Q :=
  ⟨p, _, rfl, .inr h, rfl, by rw [List.all_eq_true]; intro x hx; obtain ⟨y, _, rfl⟩ := List.mem_map.mp hx; rfl, by rw [inV_str, e]; exact q⟩
section
variable {P : Program} {w : World} {K : PySem.W.Frag} {mg : Str → Option Value} {base : Heap} {Z : Fs}
def partsL : List Str := ["code", "data"]
def scopesL : List Str := ["local", "export", "open", "weak"]
def partD : PyData → Bool
  | .str z => partsL.contains z
  | _ => false
def alignD : PyData → Bool
  | .int i => decide (1 ≤ i) && decide (i ≤ 16) && (decide (i = 1) || decide (i = 2) || decide (i = 4) || decide (i = 8) || decide (i = 16))
  | _ => false
def scopeD (p : Str) : PyData → Bool
  | .str z => scopesL.contains z && (decide (p = "code") || !decide (z = "open"))
  | _ => false
def sp_is_part (K : PySem.W.Frag) : Sp := fun vs H Q _ => ∃ (v : V) (b : Addr) (d : PyData), vs = [v] ∧ Dt K H b v d ∧ ∀ H' : Hp, Same H H' → Q (.bl (partD d)) H'
theorem ok_is_part (T : Txt K w mg Z) : FnOk P w K mg base CX0 1 Z.a_is_part Z.d_is_part ["value"] (sp_is_part K) := by
  have tC : ∀ G : Hp, SqT K G Z.c_PARTS (partsL.map V.str) := T.v_PARTS
  refine T.F_is_part.ok sc_is_part (fun vs H Q E h => ?_) (fun cdv A outer s H vs Q E hr h => ?_)
  · obtain ⟨v, b, d, rfl, _⟩ := h
    rfl
  · obtain ⟨v, b, d, rfl, h, k⟩ := h
    refine ⟨_, (pss_one (ps_ret (pe_and (pe_callB (call_isi : CallR _ _ (rIsi K)) (by rfl) T.n_isinstance boot_isinstance (pa_cons (pv 0) (pa_cons (pe_bltn (v := .ty "str") (by rfl) T.n_str boot_str rfl) pa_nil))) (pe_one (pe_cmpR (op_in_seq : OpR _ _ (rIn K false)) (pv 0) (pe_glob (v := .ref Z.c_PARTS) (by rfl) T.g_PARTS rfl) (by rfl)))))), ?_⟩
    rw [show L2.start N_is_part [v] = [some (v)] from rfl]
    try dsimp only [cxOf, Cx.nox]
    cases h with
    | @str z hz =>
      tm_at "go"
      refine inT (tC _) rfl ?_
      tm_at "go"
      exact k _ (by tm_at "same")
    | non => tm_at "go"; exact k _ (by tm_at "same")
    | bl v => tm_at "go"; exact k _ (by tm_at "same")
    | int v => tm_at "go"; exact k _ (by tm_at "same")
    | lst u1 u2 u3 u4 => tm_at "go"; exact k _ (by tm_at "same")
    | tup u1 u2 u3 u4 => tm_at "go"; exact k _ (by tm_at "same")
def sp_is_scope_of (K : PySem.W.Frag) : Sp := fun vs H Q _ => ∃ (p : Str) (v : V) (b : Addr) (d : PyData), vs = [.str p, v] ∧ Dt K H b v d ∧ ∀ H' : Hp, Same H H' → Q (.bl (scopeD p d)) H'
theorem ok_is_scope_of (T : Txt K w mg Z) : FnOk P w K mg base CX0 1 Z.a_is_scope_of Z.d_is_scope_of ["part", "value"] (sp_is_scope_of K) := by
  have tC : ∀ G : Hp, SqT K G Z.c_SCOPES (scopesL.map V.str) := T.v_SCOPES
  refine T.F_is_scope_of.ok sc_is_scope_of (fun vs H Q E h => ?_) (fun cdv A outer s H vs Q E hr h => ?_)
  · obtain ⟨p, v, b, d, rfl, _⟩ := h
    rfl
  · obtain ⟨p, v, b, d, rfl, h, k⟩ := h
    refine ⟨_, (pss_cons (ps_if (PW.pt (pw_or (pt_not (pt_val (pe_callB (call_isi : CallR _ _ (rIsi K)) (by rfl) T.n_isinstance boot_isinstance (pa_cons (pv 1) (pa_cons (pe_bltn (v := .ty "str") (by rfl) T.n_str boot_str rfl) pa_nil))))) (pw_or1 (pt_cmpR op_notIn_seq (pv 1) (pe_glob (v := .ref Z.c_SCOPES) (by rfl) T.g_SCOPES rfl) (by rfl))))) (pss_one (ps_ret pe_bl)) pss_nil)
      (pss_one (ps_ret (pe_or (pe_cmpR op_eq (pv 0) pe_str (nomark _)) (pe_one (pe_cmpR op_ne (pv 1) pe_str (nomark _))))))), ?_⟩
    rw [show L2.start N_is_scope_of [V.str p, v] = [some (V.str p), some (v)] from rfl]
    try dsimp only [cxOf, Cx.nox]
    cases h with
    | @str z hz =>
      cases hc : scopesL.contains z with
      | true =>
        tm_at "go"
        refine inT (tC _) hc ?_
        tm_at "go"
        all_goals (refine Go.bE ?_ (k _ (by tm_at "same")); show _ = (scopesL.contains z && _); rw [hc]; simp [*])
      | false =>
        tm_at "go"
        refine inT (tC _) hc ?_
        tm_at "go"
        all_goals (refine Go.bE ?_ (k _ (by tm_at "same")); show _ = (scopesL.contains z && _); rw [hc]; rfl)
    | non => tm_at "go"; exact k _ (by tm_at "same")
    | bl v => tm_at "go"; exact k _ (by tm_at "same")
    | int v => tm_at "go"; exact k _ (by tm_at "same")
    | lst u1 u2 u3 u4 => tm_at "go"; exact k _ (by tm_at "same")
    | tup u1 u2 u3 u4 => tm_at "go"; exact k _ (by tm_at "same")
end

def rowO (part : Str) (o : Option (List V)) : Bool := if part = "code" then codeO o else dataO o

open Lend LamX NdefX SupX
section
variable {P : Program} {w : World} {K : PySem.W.Frag} {mg : Str → Option Value} {base : Heap} {Z : Fs}
def alignsL : List V := [.int 1, .int 2, .int 4, .int 8, .int 16]
def alV (v : V) : Bool := numV v 1 16 && inV v alignsL
def sp_is_alignment (K : PySem.W.Frag) : Sp := fun vs H Q _ => ∃ (v : V) (b : Addr) (n : Nat), vs = [v] ∧ Okv K H b n v ∧ ∀ H' : Hp, Same H H' → Q (.bl (alV v)) H'
theorem flat_num {v : V} {lo hi : Int} (h : numV v lo hi = true) : flatV v = true := by
  cases v with
  | int i => rfl
  | _ => cases h
theorem ok_is_alignment (T : Txt K w mg Z) : FnOk P w K mg base CX0 2 Z.a_is_alignment Z.d_is_alignment ["value"] (sp_is_alignment K) := by
  have G_is_number : FnOk P w K mg base CX0 1 Z.a_is_number Z.d_is_number ["value", "least", "most"] (sp_is_numberO K) := ok_is_numberO T
  refine T.F_is_alignment.ok sc_is_alignment (fun vs H Q E h => ?_) (fun cdv A outer s H vs Q E hr h => ?_)
  · obtain ⟨v, b, n, rfl, _⟩ := h
    rfl
  · obtain ⟨v, b, n, rfl, hv, k⟩ := h
    refine ⟨_, (pss_one (ps_ret (pe_and (pe_call G_is_number (hr.mono (by omega)) (by rfl) T.m_is_number T.F_is_number.kp T.b_is_number .nil pass0 (pa_cons (pv 0) (pa_cons pe_int (pa_cons pe_int pa_nil)))) (pe_one (pe_cmpR (op_in_seq : OpR _ _ (rIn K false)) (pv 0) (pe_glob (v := .ref Z.c_ALIGNMENTS) (by rfl) T.g_ALIGNMENTS rfl) (by rfl)))))), ?_⟩
    refine ⟨v, rfl, v, 1, 16, b, n, rfl, hv, fun H1 s1 => ⟨_, rfl, ?_⟩⟩
    have q := k H1 s1
    unfold alV at q
    cases e : numV v 1 16 with
    | true =>
      rw [e] at q
      exact iteT ⟨v, rfl, _, alignsL, rfl, .inr (T.v_ALIGNMENTS H1), flat_num e, rfl, q⟩
    | false =>
      rw [e] at q
      exact iteF q
def sp_is_row_of (K : PySem.W.Frag) : Sp := fun vs H Q _ => ∃ (part : Str) (v : V) (b : Addr) (n : Nat) (o : Option (List V)), vs = [.str part, v] ∧ Tp K H b n v o ∧ ∀ H' : Hp, Same H H' → Q (.bl (rowO part o)) H'
theorem ok_is_row_of (T : Txt K w mg Z) : FnOk P w K mg base CX0 5 Z.a_is_row_of Z.d_is_row_of ["part", "value"] (sp_is_row_of K) := by
  have G_is_code_row : FnOk P w K mg base CX0 4 Z.a_is_code_row Z.d_is_code_row ["value"] (sp_is_code_row K) := ok_is_code_row T
  have G_is_data_row : FnOk P w K mg base CX0 4 Z.a_is_data_row Z.d_is_data_row ["value"] (sp_is_data_row K) := ok_is_data_row T
  refine T.F_is_row_of.ok sc_is_row_of (fun vs H Q E h => ?_) (fun cdv A outer s H vs Q E hr h => ?_)
  · obtain ⟨part, v, b, n, o, rfl, _⟩ := h
    rfl
  · obtain ⟨part, v, b, n, o, rfl, tp, k⟩ := h
    refine ⟨_, (pss_cons (ps_if (pt_cmpR op_eq (pv 0) pe_str (nomark _)) (pss_one (ps_ret (pe_call G_is_code_row (hr.mono (by omega)) (by rfl) T.m_is_code_row T.F_is_code_row.kp T.b_is_code_row .nil pass0 (pa_cons (pv 1) pa_nil)))) pss_nil)
      (pss_one (ps_ret (pe_call G_is_data_row (hr.mono (by omega)) (by rfl) T.m_is_data_row T.F_is_data_row.kp T.b_is_data_row .nil pass0 (pa_cons (pv 1) pa_nil))))), ?_⟩
    refine ⟨.str part, rfl, rfl, _, rfl, ?_⟩
    by_cases c : part = "code"
    · refine iteY (by rw [c]) ?_
      refine ⟨v, rfl, v, b, n, o, rfl, tp, fun H' s => ?_⟩
      have e : rowO part o = codeO o := if_pos c
      rw [← e]
      exact k _ s
    · refine iteN (fun z => c (V.str.inj z)) ?_
      refine ⟨v, rfl, v, b, n, o, rfl, tp, fun H' s => ?_⟩
      have e : rowO part o = dataO o := if_neg c
      rw [← e]
      exact k _ s
end

open Lend LamX NdefX SupX
/-! ### the kinds of errors of a piece -/
def kNm (D : Addr) : EKind := ⟨D, "InvalidName", ["value"]⟩
def kPt (D : Addr) : EKind := ⟨D, "InvalidPart", ["value"]⟩
def kAl (D : Addr) : EKind := ⟨D, "InvalidAlignment", ["value"]⟩
def kSc (D : Addr) : EKind := ⟨D, "InvalidScope", ["value"]⟩
def kRw (D : Addr) : EKind := ⟨D, "InvalidRow", ["at"]⟩
def kMn (D : Addr) : EKind := ⟨D, "TooMany", ["most"]⟩
def kNc (D : Addr) : EKind := ⟨D, "NotClosing", []⟩
structure Ks where
  (n p a s r m c : Addr)
def Ks.l (k : Ks) : List EKind := [kNm k.n, kPt k.p, kAl k.a, kSc k.s, kRw k.r, kMn k.m, kNc k.c]
structure Lg (P : Program) (K : PySem.W.Frag) (mg : Str → Option Value) (k : Ks) : Prop where
  PS : ProgS P FL
  n : ∃ f fd, EC K mg "InvalidName" "InvalidName.__init__" s_E_InvalidName (kNm k.n) f fd
  p : ∃ f fd, EC K mg "InvalidPart" "InvalidPart.__init__" s_E_InvalidPart (kPt k.p) f fd
  a : ∃ f fd, EC K mg "InvalidAlignment" "InvalidAlignment.__init__" s_E_InvalidAlignment (kAl k.a) f fd
  s : ∃ f fd, EC K mg "InvalidScope" "InvalidScope.__init__" s_E_InvalidScope (kSc k.s) f fd
  r : ∃ f fd, EC K mg "InvalidRow" "InvalidRow.__init__" s_E_InvalidRow (kRw k.r) f fd
  m : ∃ f fd, EC K mg "TooMany" "TooMany.__init__" s_E_TooMany (kMn k.m) f fd
  c : ∃ f fd, EC K mg "NotClosing" "NotClosing.__init__" s_E_NotClosing (kNc k.c) f fd
/-! ### rows as handed in -/
def flatK (x : V) : Prop := flatV x = true ∧ ∀ z, x = .str z → StrK z
inductive RowV (H : Hp) (N : Addr → Prop) : V → Option (List V) → Prop
  | flat {v : V} : flatK v → RowV H N v none
  | lst {a : Addr} {xs : List V} : H a = some (.lst xs) → N a → RowV H N (.ref a) none
  | tup {a : Addr} {xs : List V} : H a = some (.tup xs) → xs.length ≤ 100000 → (∀ x ∈ xs, flatK x) → RowV H N (.ref a) (some xs)
theorem RowV.tp {K : PySem.W.Frag} {H : Hp} {N : Addr → Prop} {v : V} {o : Option (List V)} (b : Addr) (h : RowV H N v o) : Tp K H b 0 v o := by
  cases h with
  | flat h =>
    cases v with
    | non => exact ⟨_, .base .non, kit_ty (by decide +kernel)⟩
    | bl k => exact ⟨_, .base (.bl k), kit_ty (show kitB "bool" "tuple" = some false by decide +kernel)⟩
    | int i => exact ⟨_, .base (.int i), kit_ty (show kitB "int" "tuple" = some false by decide +kernel)⟩
    | str z => exact ⟨_, .base (.str z), kit_ty (show kitB "str" "tuple" = some false by decide +kernel)⟩
    | _ => cases h.1
  | lst h _ => exact ⟨_, tyx_l (SqL.of h), kit_ty (by decide +kernel)⟩
  | tup h l f => exact ⟨_, rfl, SqT.of h, l, f⟩
theorem RowV.same {H H' : Hp} {N : Addr → Prop} {v : V} {o : Option (List V)} (s : Same H H') (h : RowV H N v o) : RowV H' N v o := by
  cases h with
  | flat h => exact .flat h
  | lst h n => exact .lst (s _ _ h) n
  | tup h l f => exact .tup (s _ _ h) l f
theorem RowV.but {H H' : Hp} {N : Addr → Prop} {q : Addr} {ys : List V} {v : V} {o : Option (List V)} (s : Go.But q H H') (e : H q = some (.lst ys)) (n : ∀ a, N a → a ≠ q) (h : RowV H N v o) : RowV H' N v o := by
  cases h with
  | flat h => exact .flat h
  | lst h k => exact .lst (s _ _ (n _ k) h) k
  | tup h l f => exact .tup (s _ _ (fun z => by rw [z, e] at h; cases h) h) l f
inductive RowsV (H : Hp) (N : Addr → Prop) : V → Option (List (Option (List V))) → Prop
  | no {v : V} : flatK v → RowsV H N v none
  | lst {a : Addr} {xs : List V} {os : List (Option (List V))} : H a = some (.lst xs) → N a → xs.length ≤ 100 → Paired (RowV H N) xs os → RowsV H N (.ref a) (some os)
theorem RowsV.same {H H' : Hp} {N : Addr → Prop} {v : V} {o : Option (List (Option (List V)))} (s : Same H H') (h : RowsV H N v o) : RowsV H' N v o := by
  cases h with
  | no h => exact .no h
  | lst h n l p => exact .lst (s _ _ h) n l (Paired.mapP p fun _ _ e => e.same s)
theorem RowsV.but {H H' : Hp} {N : Addr → Prop} {q : Addr} {ys : List V} {v : V} {o : Option (List (Option (List V)))} (s : Go.But q H H') (e : H q = some (.lst ys)) (n : ∀ a, N a → a ≠ q) (h : RowsV H N v o) : RowsV H' N v o := by
  cases h with
  | no h => exact .no h
  | lst h k l p => exact .lst (s _ _ (n _ k) h) k l (Paired.mapP p fun _ _ u => u.but s e n)
theorem Paired.get2 {α β : Type} {R : α → β → Prop} : ∀ {xs : List α} {os : List β}, Paired R xs os → ∀ {i : Nat} {x : α}, xs[i]? = some x → ∃ o, os[i]? = some o ∧ R x o
  | _, _, .nil, _, _, e => by cases e
  | _, _, .cons r _, 0, _, e => by cases e; exact ⟨_, rfl, r⟩
  | _, _, .cons _ t, i + 1, _, e => Paired.get2 t (i := i) e
/-- what is wrong with the rows of a part -/
def rowsE (k : Ks) (p : Str) : Option (List (Option (List V))) → Option (EKind × List V)
  | none => some (kRw k.r, [.int (-1)])
  | some os => if 16 < os.length then some (kMn k.m, [.int 16]) else match os.findIdx? (fun o => !rowO p o) with
    | some i => some (kRw k.r, [.int ((i : Nat) : Int)])
    | none => none
theorem rowsE_some {k : Ks} {p : Str} {os : List (Option (List V))} : rowsE k p (some os) = if 16 < os.length then some (kMn k.m, [.int 16]) else match os.findIdx? (fun o => !rowO p o) with
    | some i => some (kRw k.r, [.int ((i : Nat) : Int)])
    | none => none := rfl
theorem shows_int {K : PySem.W.Frag} {H : Hp} {i : Int} (h0 : -1 ≤ i) (h1 : i < 100) : ∃ c, Shows K H (.int i) c ∧ c ≤ 5000 := by
  have q : ∀ n : Fin 101, (toString ((n.val : Int) - 1) : Str).length ≤ 5000 ∧ (((n.val : Int) - 1).natAbs.log2 < 1920) := by decide +kernel
  obtain ⟨n, rfl⟩ : ∃ n : Nat, i = (n : Int) - 1 := ⟨(i + 1).toNat, by omega⟩
  have z := q ⟨n, by omega⟩
  exact ⟨5000, .inl ⟨_, .int _ z.2, z.1⟩, Nat.le_refl _⟩
theorem findIdx_some {α : Type} {p : α → Bool} : ∀ {l : List α} {i : Nat} {x : α}, l[i]? = some x → p x = true → (∀ j y, j < i → l[j]? = some y → p y = false) → l.findIdx? p = some i
  | a :: l, 0, x, e, hx, _ => by cases e; rw [List.findIdx?_cons, hx]; rfl
  | a :: l, i + 1, x, e, hx, h => by
    rw [List.findIdx?_cons, h 0 a (Nat.succ_pos _) rfl, findIdx_some (l := l) (i := i) e hx fun j y hj hy => h (j + 1) y (Nat.succ_lt_succ hj) hy]
    rfl
theorem findIdx_none {α : Type} {p : α → Bool} : ∀ {l : List α}, (∀ j y, j < l.length → l[j]? = some y → p y = false) → l.findIdx? p = none
  | [], _ => rfl
  | a :: l, h => by
    rw [List.findIdx?_cons, h 0 a (Nat.succ_pos _) rfl, findIdx_none (l := l) fun j y hj hy => h (j + 1) y (Nat.succ_lt_succ hj) hy]
    rfl
/-- enumerate of a list -/
def YE (xs : List V) : Nat → Hp → V → Hp → Prop := fun i H v H1 => ∃ T x, v = .ref T ∧ H T = none ∧ Same H H1 ∧ H1 T = some (.tup [.int (i : Nat), x]) ∧ xs[i]? = some x
theorem walkE {K : PySem.W.Frag} {a : Addr} {xs : List V} : Walk (Ite K a) xs.length (fun H => SqL K H a xs) (YE xs) :=
  walk_enum.mono (fun _ h => h) fun i H x H1 _ _ ⟨T, u, t, e1, e2, e3, e4, e5⟩ => by
    cases e4
    exact ⟨T, t, e1, e2, e3 ▸ Go.Sn e2, e3 ▸ upd_same, e5⟩
theorem EndsSo.er {o : Option (EKind × List V)} {e : EKind} {xs : List V} {G : Hp} {Q : VK} {E : XK} (en : EndsSo o G Q E) (ho : o = some (e, xs)) {G1 : Hp} (s : Same G G1) {d : Addr} {G' : Hp} (h : ErrAt G1 G' d e xs) : E (.ref e.D) (some d) G' := by
  subst ho
  exact en d G' ⟨Go.freeS s h.new, s.trans h.same, h.at_⟩
theorem EndsSo.ok {o : Option (EKind × List V)} {G : Hp} {Q : VK} {E : XK} (en : EndsSo o G Q E) (ho : o = none) {v : V} {H' : Hp} (s : Same G H') : Q v H' := by
  subst ho
  exact en v H' s
theorem mk_errT {K : PySem.W.Frag} {D : Addr} {attr code : Str} {σ : L2.St} {G : Hp} {x : V} {E : XK} {te : TE} (ht : ∀ Q : VK, Q x G → te σ G Q) (hs : ∃ c, Shows K G x c ∧ c ≤ 5000) (hE : ∀ d G', ErrAt G G' d ⟨D, code, [attr]⟩ [x] → E (.ref D) (some d) G') :
    tMkO D (sp_err1 K D attr code) [] (tCons te tNil) σ G E := by
  obtain ⟨c, hs, hc⟩ := hs
  exact ht _ (mk_errC (σ := σ) hs hc hE)
section
variable {P : Program} {w : World} {K : PySem.W.Frag} {mg : Str → Option Value} {base : Heap} {Z : Fs}
def sp_check_rows (k : Ks) : Sp := fun vs H Q E => ∃ (p : Str) (v : V) (N : Addr → Prop) (rr : Option (List (Option (List V)))), vs = [.str p, v] ∧ RowsV H N v rr ∧ EndsSo (rowsE k p rr) H Q E
theorem i_row_of {H : Hp} {Q : VK} {E : XK} {N : Addr → Prop} {p : Str} {v : V} {o : Option (List V)} (h : RowV H N v o) (q : ∀ H' : Hp, Same H H' → Q (.bl (rowO p o)) H') : sp_is_row_of K [.str p, v] H Q E := ⟨p, v, 0, 0, o, rfl, h.tp 0, q⟩
theorem ok_check_rows {k : Ks} (T : Txt K w mg Z) (L : Lg P K mg k) : FnOk P w K mg base (L2N.CX P w) 6 Z.a_check_rows Z.d_check_rows ["part", "rows"] (sp_check_rows k) := by
  obtain ⟨f4, fd4, EC_InvalidRow⟩ := L.r
  obtain ⟨f5, fd5, EC_TooMany⟩ := L.m
  have G_is_row_of := ok_is_row_of (P := P) (base := base) T
  have G_E_InvalidRow := ok_E_InvalidRow (P := P) (w := w) (base := base) L.PS EC_InvalidRow
  have G_E_TooMany := ok_E_TooMany (P := P) (w := w) (base := base) L.PS EC_TooMany
  refine LendN.okN T.F_check_rows sc_check_rows (fun vs H Q E h => ?_) (fun cdv A outer s H vs Q E hr h => ?_)
  · obtain ⟨p, v, N, rr, rfl, _⟩ := h
    rfl
  · obtain ⟨p, v, N, rr, rfl, hv, en⟩ := h
    have tk : L2N.Takes (cxOf (L2N.CX P w) P w K mg base N_check_rows "_check_rows" (defScope s_check_rows) Z.a_check_rows cdv A outer s H E) (fun cls d _ H => E cls d H) := L2N.takes_of (E₁ := fun e' s'' => L2N.CX P w outer H s E e' s'') rfl rfl rfl rfl
    refine ⟨_, (pss_cons (ps_if (pt_not (pt_val (pe_callB (call_isiT : CallR _ _ (rIsiT K)) (by rfl) T.n_isinstance boot_isinstance (pa_cons (pv 1) (pa_cons (pe_tup (pa_cons (pe_bltn (v := .ty "list") (by rfl) T.n_list boot_list rfl) (pa_cons (pe_bltn (v := .ty "tuple") (by rfl) T.n_tuple boot_tuple rfl) pa_nil))) pa_nil))))) (pss_one (L2N.ps_raise rfl tk (LendN.pmkN_own EC_InvalidRow.V.oex EC_InvalidRow.V.ini EC_InvalidRow.V.tI G_E_InvalidRow (hr.mono (by omega)) EC_InvalidRow.b pass0 (by rfl) EC_InvalidRow.V.mgx (pa_cons (pe_un un_neg pe_int) pa_nil)))) pss_nil)
      (pss_cons (ps_if (pt_cmpR op_gt (pe_callB (Go.c_len : CallR _ _ (Go.RLen K)) (by rfl) T.n_len boot_len (pa_cons (pv 1) pa_nil)) (pe_glob (v := .int 16) (by rfl) (Classical.choose_spec T.g_MOST_ROWS) ⟨_, rfl⟩) (nomark _)) (pss_one (L2N.ps_raise rfl tk (LendN.pmkN_own EC_TooMany.V.oex EC_TooMany.V.ini EC_TooMany.V.tI G_E_TooMany (hr.mono (by omega)) EC_TooMany.b pass0 (by rfl) EC_TooMany.V.mgx (pa_cons (pe_glob (v := .int 16) (by rfl) (Classical.choose_spec T.g_MOST_ROWS) ⟨_, rfl⟩) pa_nil)))) pss_nil)
      (pss_one (ps_for (passes_of rfl) rfl (pi_enumA (by rfl) T.n_enumerate (pa_cons (pv 1) pa_nil)) (pg_tup (by rfl) (pgs_cons (pg_name (i := 2) sc_check_rows.nd rfl (Or.inl rfl)) (pgs_cons (pg_name (i := 3) sc_check_rows.nd rfl (Or.inl rfl)) pgs_nil))) (pss_one (ps_if (pt_not (pt_val (pe_call G_is_row_of (hr.mono (by omega)) (by rfl) T.m_is_row_of T.F_is_row_of.kp T.b_is_row_of .nil pass0 (pa_cons (pv 0) (pa_cons (pv 3) pa_nil))))) (pss_one (L2N.ps_raise rfl tk (LendN.pmkN_own EC_InvalidRow.V.oex EC_InvalidRow.V.ini EC_InvalidRow.V.tI G_E_InvalidRow (hr.mono (by omega)) EC_InvalidRow.b pass0 (by rfl) EC_InvalidRow.V.mgx (pa_cons (pv 2) pa_nil)))) pss_nil)))))), ?_⟩
    rw [show L2.start N_check_rows [V.str p, v] = [some (V.str p), some (v), none, none] from rfl]
    try dsimp only [cxOf, Cx.nox]
    cases hv with
    | no hf =>
      cases v with
      | non =>
        tm_at "go"
        exact mk_errT (fun Q q => ⟨1, rfl, q⟩) (shows_int (by decide) (by decide)) fun d G' e => en.er (e := kRw k.r) rfl (by tm_at "same") e
      | bl b =>
        tm_at "go"
        exact mk_errT (fun Q q => ⟨1, rfl, q⟩) (shows_int (by decide) (by decide)) fun d G' e => en.er (e := kRw k.r) rfl (by tm_at "same") e
      | int i =>
        tm_at "go"
        exact mk_errT (fun Q q => ⟨1, rfl, q⟩) (shows_int (by decide) (by decide)) fun d G' e => en.er (e := kRw k.r) rfl (by tm_at "same") e
      | str z =>
        tm_at "go"
        exact mk_errT (fun Q q => ⟨1, rfl, q⟩) (shows_int (by decide) (by decide)) fun d G' e => en.er (e := kRw k.r) rfl (by tm_at "same") e
      | _ => cases hf.1
    | @lst a xs os e1 nA hl hp =>
      have lo : xs.length = os.length := Paired.length hp
      tm_at "go"
      · rename_i p1 G1 n1 s1 t1 big
        refine mk_errC (c := 5000) (.inl ⟨_, .int _ (by decide +kernel), by decide +kernel⟩) (Nat.le_refl _) fun d G' e => en.er (e := kMn k.m) ?_ (by tm_at "same") e
        rw [rowsE_some]
        exact if_pos (by omega)
      · rename_i p1 G1 n1 s1 t1 big
        refine ⟨.ref a, rfl, a, xs, rfl, .inl ⟨by tm_at "hpL", ?_⟩⟩
        refine Go.for_w (walkE (K := K) (xs := xs)) (fun i σ H' => ∃ y2 y3, σ = [some (.str p), some (.ref a), y2, y3] ∧ Same H H' ∧ ∀ j o, j < i → os[j]? = some o → rowO p o = true) ⟨_, _, rfl, by tm_at "same", fun j o hj _ => absurd hj (Nat.not_lt_zero _)⟩ (fun i σ H' _ ⟨_, _, _, s5, _⟩ => by tm_at "hpL") ?_ ?_
        · rintro i x σ G G' hi ⟨y2, y3, rfl, sG, hj⟩ ⟨Tq, y, rfl, hT, sT, eT, hy⟩
          obtain ⟨o, ho, ro⟩ := Paired.get2 hp hy
          tm_at "go"
          refine i_row_of (ro.same (by tm_at "same")) fun G2 s2 => ?_
          tm_at "go"
          · rename_i q
            refine ⟨_, _, rfl, by tm_at "same", fun j o' hj' ho' => ?_⟩
            rcases Nat.lt_succ_iff_lt_or_eq.mp hj' with h | rfl
            · exact hj j o' h ho'
            · rw [ho] at ho'
              cases ho'
              exact q
          · rename_i q
            refine mk_errT (fun Q q => ⟨_, rfl, q⟩) (shows_int (by omega) (by omega)) fun d G3 e => en.er (e := kRw k.r) ?_ (by tm_at "same") e
            rw [rowsE_some, if_neg (by omega)]
            have z : os.findIdx? (fun o => !rowO p o) = some i := findIdx_some ho (by rw [q]; rfl) fun j y hj' hy' => by rw [hj j y hj' hy']; rfl
            rw [z]
        · rintro σ G ⟨y2, y3, rfl, sG, hj⟩
          refine en.ok ?_ sG
          rw [rowsE_some, if_neg (by omega)]
          have z : os.findIdx? (fun o => !rowO p o) = none := findIdx_none fun j y hj' hy' => by rw [hj j y (by omega) hy']; rfl
          rw [z]
end

open Lend LamX NdefX SupX
def closS : List Str := ["jump", "halt", "back"]
def closO (o : Option (List V)) : Bool := closS.contains (hdS o)
theorem codeO_hd {o : Option (List V)} (h : codeO o = true) : ∃ u r, o = some (.str u :: r) := by
  unfold codeO at h
  cases e : findT tb_CODE_ROWS (hdS o) with
  | none => rw [e] at h; cases h
  | some ks =>
    have q := (code_kinds e).2.2.2
    match o, q with
    | none, q => exact absurd rfl q
    | some [], q => exact absurd rfl q
    | some (x :: r), q =>
      cases x with
      | str u => exact ⟨u, r, rfl⟩
      | _ => exact absurd rfl q
theorem Paired.last {α β : Type} {R : α → β → Prop} {xs : List α} {os : List β} (h : Paired R xs os) (h0 : 0 < os.length) : ∃ x o, atI xs (-1) = some x ∧ os.getLast? = some o ∧ R x o := by
  have l := Paired.length h
  rcases List.eq_nil_or_concat xs with rfl | ⟨ys, y, rfl⟩
  · simp at l
    omega
  · rw [List.concat_eq_append] at h l ⊢
    obtain ⟨o, ho, r⟩ := Paired.get2 h (i := ys.length) (x := y) (by simp)
    refine ⟨y, o, atI_last _ _, ?_, r⟩
    rw [List.getLast?_eq_getElem?, ← l]
    simpa using ho
section
variable {P : Program} {w : World} {K : PySem.W.Frag} {mg : Str → Option Value} {base : Heap} {Z : Fs}
def sp_is_closingA : Sp := fun vs H Q _ => ∃ (v : V) (N : Addr → Prop) (o : Option (List V)), vs = [v] ∧ RowV H N v o ∧ codeO o = true ∧ ∀ H' : Hp, Same H H' → Q (.bl (closO o)) H'
theorem i_code_row {H : Hp} {Q : VK} {E : XK} {N : Addr → Prop} {v : V} {o : Option (List V)} (h : RowV H N v o) (q : ∀ H' : Hp, Same H H' → Q (.bl (codeO o)) H') : sp_is_code_row K [v] H Q E := ⟨v, 0, 0, o, rfl, h.tp 0, q⟩
theorem ok_is_closingA (T : Txt K w mg Z) : FnOk P w K mg base CX0 5 Z.a_is_closing Z.d_is_closing ["row"] sp_is_closingA := by
  have G_is_code_row : FnOk P w K mg base CX0 4 Z.a_is_code_row Z.d_is_code_row ["value"] (sp_is_code_row K) := ok_is_code_row T
  have tC : ∀ G : Hp, SqT K G Z.c_CLOSING (closS.map V.str) := T.v_CLOSING
  refine T.F_is_closing.ok sc_is_closing (fun vs H Q E h => ?_) (fun cdv A outer s H vs Q E hr h => ?_)
  · obtain ⟨v, N, o, rfl, _⟩ := h
    rfl
  · obtain ⟨v, N, o, rfl, hv, hc, k⟩ := h
    obtain ⟨u, r, rfl⟩ := codeO_hd hc
    have hv0 := hv
    cases hv with
    | @tup a _ ea la fa =>
      refine ⟨_, (pss_one (ps_ret (pe_and (pe_call G_is_code_row (hr.mono (by omega)) (by rfl) T.m_is_code_row T.F_is_code_row.kp T.b_is_code_row .nil pass0 (pa_cons (pv 0) pa_nil)) (pe_one (pe_cmpR (op_in_seq : OpR _ _ (rIn K false)) (pe_ix (ix_tup : IxR _ (rIxT K)) (pv 0) pe_int (fun _ _ => rfl)) (pe_glob (v := .ref Z.c_CLOSING) (by rfl) T.g_CLOSING rfl) (by rfl)))))), ?_⟩
      rw [show L2.start N_is_closing [V.ref a] = [some (V.ref a)] from rfl]
      try dsimp only [cxOf, Cx.nox]
      tm_at "go"
      refine i_code_row hv0 fun G s1 => ?_
      tm_at "go"
      refine inT (tC _) rfl ?_
      tm_at "go"
      exact k _ (by tm_at "same")
def sp_ends_closingA : Sp := fun vs H Q _ => ∃ (p : Str) (a : Addr) (N : Addr → Prop) (xs : List V) (os : List (Option (List V))), vs = [.str p, .ref a] ∧ H a = some (.lst xs) ∧ Paired (RowV H N) xs os ∧ xs.length ≤ 1000 ∧ (p ≠ "data" → ∀ o ∈ os, codeO o = true) ∧ ∀ H' : Hp, Same H H' → Q (.bl (decide (p = "data") || (decide (0 < os.length) && closO (os.getLast?.getD none)))) H'
theorem ok_ends_closingA (T : Txt K w mg Z) : FnOk P w K mg base CX0 6 Z.a_ends_closing Z.d_ends_closing ["part", "rows"] sp_ends_closingA := by
  have G_is_closing : FnOk P w K mg base CX0 5 Z.a_is_closing Z.d_is_closing ["row"] sp_is_closingA := ok_is_closingA T
  refine T.F_ends_closing.ok sc_ends_closing (fun vs H Q E h => ?_) (fun cdv A outer s H vs Q E hr h => ?_)
  · obtain ⟨p, a, N, xs, os, rfl, _⟩ := h
    rfl
  · obtain ⟨p, a, N, xs, os, rfl, ea, hp, hl, hc, k⟩ := h
    have lo : xs.length = os.length := Paired.length hp
    refine ⟨_, (pss_one (ps_ret (pe_or (pe_cmpR op_eq (pv 0) pe_str (nomark _)) (pe_one (pe_and (pe_cmpR op_gt (pe_callB (Go.c_len : CallR _ _ (Go.RLen K)) (by rfl) T.n_len boot_len (pa_cons (pv 1) pa_nil)) pe_int (nomark _)) (pe_one (pe_call G_is_closing (hr.mono (by omega)) (by rfl) T.m_is_closing T.F_is_closing.kp T.b_is_closing .nil pass0 (pa_cons (pe_ix ix_seq (pv 1) (pe_un un_neg pe_int) (fun _ _ => rfl)) pa_nil)))))))), ?_⟩
    rw [show L2.start N_ends_closing [V.str p, V.ref a] = [some (V.str p), some (V.ref a)] from rfl]
    try dsimp only [cxOf, Cx.nox]
    tm_at "go"
    · rename_i c
      have q := k H (Same.refl _)
      rw [decide_eq_true c] at q
      exact q
    · rename_i c h0
      obtain ⟨x, o, hx, ho, ro⟩ := Paired.last hp (by omega)
      have q := fun H' (s : Same H H') => k H' s
      rw [decide_eq_false c, decide_eq_true (show 0 < os.length by omega), ho] at q
      refine .inl ⟨a, xs, -1, x, rfl, rfl, SqL.of ea, hx, ?_⟩
      exact ⟨x, N, o, rfl, ro, hc c o (List.mem_of_getLast? ho), fun H' s => q H' s⟩
    · rename_i c h0
      have q := k H (Same.refl _)
      rw [decide_eq_false c, decide_eq_false (show ¬ 0 < os.length by omega)] at q
      exact q
end

open Lend LamX NdefX SupX
/-! ### what a piece is given -/
structure GV (K : PySem.W.Frag) (H : Hp) (b : Addr) (v : V) (d : PyData) (good : Bool) : Prop where
  dt : Dt K H b v d
  deep : dep d ≤ 1
  shows : good = false → ∃ c, Shows K H v c ∧ c ≤ 5000
theorem GV.but {K : PySem.W.Frag} {H H' : Hp} {b : Addr} {v : V} {d : PyData} {g : Bool} (s : Go.But b H H') (h : GV K H b v d g) : GV K H' b v d g := ⟨h.dt.but s, h.deep, fun z => let ⟨c, h1, h2⟩ := h.shows z; ⟨c, Shows.but s h.dt h1, h2⟩⟩
theorem GV.same {K : PySem.W.Frag} {H H' : Hp} {b : Addr} {v : V} {d : PyData} {g : Bool} (s : Same H H') (h : GV K H b v d g) : GV K H' b v d g := h.but (Go.sb s)
theorem GV.grow {K : PySem.W.Frag} {H H' : Hp} {b : Addr} {v : V} {d : PyData} {g : Bool} (s : Go.Grow H H') (h : GV K H b v d g) : GV K H' b v d g := ⟨h.dt.grow s, h.deep, fun z => let ⟨c, h1, h2⟩ := h.shows z; ⟨c, Shows.grow s h1, h2⟩⟩
def strD : PyData → Str
  | .str z => z
  | _ => ""
def closeE (p : Str) : Option (List (Option (List V))) → Bool
  | none => true
  | some os => decide (p = "data") || (decide (0 < os.length) && closO (os.getLast?.getD none))
/-- the first error of a piece -/
def pieceE (k : Ks) (n p a s : V) (dp ds : PyData) (rr : Option (List (Option (List V)))) : Option (EKind × List V) :=
  if nmV n = false then some (kNm k.n, [n])
  else if partD dp = false then some (kPt k.p, [p])
  else match rowsE k (strD dp) rr with
    | some e => some e
    | none => if closeE (strD dp) rr = false then some (kNc k.c, [])
      else if alV a = false then some (kAl k.a, [a])
      else if scopeD (strD dp) ds = false then some (kSc k.s, [s])
      else none
theorem pieceE1 {k : Ks} {n p a s : V} {dp ds : PyData} {rr : Option (List (Option (List V)))} (h : nmV n = false) : pieceE k n p a s dp ds rr = some (kNm k.n, [n]) := if_pos h
theorem pieceE2 {k : Ks} {n p a s : V} {dp ds : PyData} {rr : Option (List (Option (List V)))} (h : nmV n = true) (h2 : partD dp = false) : pieceE k n p a s dp ds rr = some (kPt k.p, [p]) := by simp [pieceE, h, h2]
theorem pieceE3 {k : Ks} {n p a s : V} {dp ds : PyData} {rr : Option (List (Option (List V)))} {e : EKind × List V} (h : nmV n = true) (h2 : partD dp = true) (h3 : rowsE k (strD dp) rr = some e) : pieceE k n p a s dp ds rr = some e := by simp [pieceE, h, h2, h3]
theorem pieceE4 {k : Ks} {n p a s : V} {dp ds : PyData} {rr : Option (List (Option (List V)))} (h : nmV n = true) (h2 : partD dp = true) (h3 : rowsE k (strD dp) rr = none) (h4 : closeE (strD dp) rr = false) : pieceE k n p a s dp ds rr = some (kNc k.c, []) := by simp [pieceE, h, h2, h3, h4]
theorem pieceE5 {k : Ks} {n p a s : V} {dp ds : PyData} {rr : Option (List (Option (List V)))} (h : nmV n = true) (h2 : partD dp = true) (h3 : rowsE k (strD dp) rr = none) (h4 : closeE (strD dp) rr = true) (h5 : alV a = false) : pieceE k n p a s dp ds rr = some (kAl k.a, [a]) := by simp [pieceE, h, h2, h3, h4, h5]
theorem pieceE6 {k : Ks} {n p a s : V} {dp ds : PyData} {rr : Option (List (Option (List V)))} (h : nmV n = true) (h2 : partD dp = true) (h3 : rowsE k (strD dp) rr = none) (h4 : closeE (strD dp) rr = true) (h5 : alV a = true) (h6 : scopeD (strD dp) ds = false) : pieceE k n p a s dp ds rr = some (kSc k.s, [s]) := by simp [pieceE, h, h2, h3, h4, h5, h6]
theorem pieceE7 {k : Ks} {n p a s : V} {dp ds : PyData} {rr : Option (List (Option (List V)))} (h : nmV n = true) (h2 : partD dp = true) (h3 : rowsE k (strD dp) rr = none) (h4 : closeE (strD dp) rr = true) (h5 : alV a = true) (h6 : scopeD (strD dp) ds = true) : pieceE k n p a s dp ds rr = none := by simp [pieceE, h, h2, h3, h4, h5, h6]
theorem rowsE_ok {k : Ks} {p : Str} {rr : Option (List (Option (List V)))} (h : rowsE k p rr = none) : ∃ os, rr = some os ∧ os.length ≤ 16 ∧ ∀ o ∈ os, rowO p o = true := by
  match rr, h with
  | some os, h =>
    rw [rowsE_some] at h
    split at h
    · cases h
    · cases e : os.findIdx? (fun o => !rowO p o) with
      | some i => rw [e] at h; cases h
      | none =>
        refine ⟨os, rfl, by omega, fun o ho => ?_⟩
        have q := List.findIdx?_eq_none_iff.mp e o ho
        simpa using q
theorem part_two {dp : PyData} (h : partD dp = true) : dp = .str "code" ∨ dp = .str "data" := by
  cases dp with
  | str z =>
    have q : partsL.contains z = true := h
    simp [partsL] at q
    rcases q with rfl | rfl
    · exact .inl rfl
    · exact .inr rfl
  | _ => cases h
theorem lenp {f : Str} {y : V} {fs : List (Str × V)} {n : Nat} (h : fs.length ≤ n) : (putF f y fs).length ≤ n + 1 := Nat.le_trans (length_putF f y fs) (Nat.succ_le_succ h)
section
variable {P : Program} {w : World} {K : PySem.W.Frag} {mg : Str → Option Value} {base : Heap} {Z : Fs}
theorem i_is_name {H : Hp} {Q : VK} {E : XK} {b : Addr} {v : V} {d : PyData} (h : Dt K H b v d) (q : ∀ H' : Hp, Same H H' → Q (.bl (nmV v)) H') : sp_is_name K [v] H Q E := ⟨v, b, dep d, rfl, h.okv (Nat.le_refl _), q⟩
theorem i_is_part {H : Hp} {Q : VK} {E : XK} {b : Addr} {v : V} {d : PyData} (h : Dt K H b v d) (q : ∀ H' : Hp, Same H H' → Q (.bl (partD d)) H') : sp_is_part K [v] H Q E := ⟨v, b, d, rfl, h, q⟩
theorem i_is_alignment {H : Hp} {Q : VK} {E : XK} {b : Addr} {v : V} {d : PyData} (h : Dt K H b v d) (q : ∀ H' : Hp, Same H H' → Q (.bl (alV v)) H') : sp_is_alignment K [v] H Q E := ⟨v, b, dep d, rfl, h.okv (Nat.le_refl _), q⟩
theorem i_is_scope_of {H : Hp} {Q : VK} {E : XK} {b : Addr} {p : Str} {v : V} {d : PyData} (h : Dt K H b v d) (q : ∀ H' : Hp, Same H H' → Q (.bl (scopeD p d)) H') : sp_is_scope_of K [.str p, v] H Q E := ⟨p, v, b, d, rfl, h, q⟩
def sp_init (K : PySem.W.Frag) (C : Addr) (k : Ks) : Sp := fun vs H Q E => ∃ (x dx b : Addr) (n p r a s kp : V) (dn dp da ds : PyData) (N : Addr → Prop) (rr : Option (List (Option (List V)))), vs = [.ref x, n, p, r, a, s, kp] ∧ H x = some (.ins C dx []) ∧
  GV K H b n dn (nmV n) ∧ GV K H b p dp (partD dp) ∧ GV K H b a da (alV a) ∧ GV K H b s ds (scopeD (strD dp) ds) ∧ RowsV H N r rr ∧
  (∀ e xs, pieceE k n p a s dp ds rr = some (e, xs) → ∀ d H', ErrAt H H' d e xs → E (.ref e.D) (some d) H') ∧
  (∀ os, pieceE k n p a s dp ds rr = none → rr = some os → ∀ (H' : Hp) (q : Addr) (fs : List (Str × V)) (ys : List V), Stp x H H' → H' x = some (.ins C dx fs) → fs.lookup ("name" : Str) = some n → fs.lookup ("_rows" : Str) = some (V.ref q) → H' q = some (.lst ys) → ys.length = os.length → Q .non H')
theorem ok_Piece_init {k : Ks} (T : Txt K w mg Z) (L : Lg P K mg k) : FnOk P w K mg base (L2N.CX P w) 7 Z.a_Piece___init__ Z.d_Piece___init__ ["self", "name", "part", "rows", "alignment", "scope", "keep"] (sp_init K Z.C_Piece k) := by
  obtain ⟨f0, fd0, EC_InvalidName⟩ := L.n
  obtain ⟨f1, fd1, EC_InvalidPart⟩ := L.p
  obtain ⟨f2, fd2, EC_InvalidAlignment⟩ := L.a
  obtain ⟨f3, fd3, EC_InvalidScope⟩ := L.s
  obtain ⟨f6, fd6, EC_NotClosing⟩ := L.c
  have G_is_name : FnOk P w K mg base CX0 1 Z.a_is_name Z.d_is_name ["value"] (sp_is_name K) := ok_is_name T
  have G_is_part : FnOk P w K mg base CX0 1 Z.a_is_part Z.d_is_part ["value"] (sp_is_part K) := ok_is_part T
  have G_check_rows := ok_check_rows (P := P) (base := base) T L
  have G_ends_closing := ok_ends_closingA (P := P) (base := base) T
  have G_is_alignment : FnOk P w K mg base CX0 2 Z.a_is_alignment Z.d_is_alignment ["value"] (sp_is_alignment K) := ok_is_alignment T
  have G_is_scope_of : FnOk P w K mg base CX0 1 Z.a_is_scope_of Z.d_is_scope_of ["part", "value"] (sp_is_scope_of K) := ok_is_scope_of T
  have G_E_InvalidName := ok_E_InvalidName (P := P) (w := w) (base := base) L.PS EC_InvalidName
  have G_E_InvalidPart := ok_E_InvalidPart (P := P) (w := w) (base := base) L.PS EC_InvalidPart
  have G_E_InvalidAlignment := ok_E_InvalidAlignment (P := P) (w := w) (base := base) L.PS EC_InvalidAlignment
  have G_E_InvalidScope := ok_E_InvalidScope (P := P) (w := w) (base := base) L.PS EC_InvalidScope
  have G_E_NotClosing := ok_E_NotClosing (P := P) (w := w) (base := base) L.PS EC_NotClosing
  refine T.F_Piece___init__.ok sc_Piece___init__ (fun vs H Q E h => ?_) (fun cdv A outer s H vs Q E hr h => ?_)
  · obtain ⟨x, dx, b, n, p, r, a, s, kp, dn, dp, da, ds, N, rr, rfl, _⟩ := h
    rfl
  · obtain ⟨x, dx, b, n, p, r, a, s', kp, dn, dp, da, ds, N, rr, rfl, hx, gn, gp, ga, gs, hR, kE, kV⟩ := h
    have tk : L2N.Takes (cxOf (L2N.CX P w) P w K mg base N_Piece___init__ "Piece.__init__" (defScope s_Piece___init__) Z.a_Piece___init__ cdv A outer s H E) (fun cls d _ H => E cls d H) := L2N.takes_of (E₁ := fun e' s'' => L2N.CX P w outer H s E e' s'') rfl rfl rfl rfl
    refine ⟨_, (pss_cons (ps_if (pt_not (pt_val (pe_call G_is_name (hr.mono (by omega)) (by rfl) T.m_is_name T.F_is_name.kp T.b_is_name .nil pass0 (pa_cons (pv 1) pa_nil)))) (pss_one (L2N.ps_raise rfl tk (LendN.pmkN_own EC_InvalidName.V.oex EC_InvalidName.V.ini EC_InvalidName.V.tI G_E_InvalidName (hr.mono (by omega)) EC_InvalidName.b pass0 (by rfl) EC_InvalidName.V.mgx (pa_cons (pv 1) pa_nil)))) pss_nil)
      (pss_cons (ps_if (pt_not (pt_val (pe_call G_is_part (hr.mono (by omega)) (by rfl) T.m_is_part T.F_is_part.kp T.b_is_part .nil pass0 (pa_cons (pv 2) pa_nil)))) (pss_one (L2N.ps_raise rfl tk (LendN.pmkN_own EC_InvalidPart.V.oex EC_InvalidPart.V.ini EC_InvalidPart.V.tI G_E_InvalidPart (hr.mono (by omega)) EC_InvalidPart.b pass0 (by rfl) EC_InvalidPart.V.mgx (pa_cons (pv 2) pa_nil)))) pss_nil)
      (pss_cons (ps_expr (pe_call G_check_rows (hr.mono (by omega)) (by rfl) T.m_check_rows T.F_check_rows.kp T.b_check_rows .nil (L2N.passes_call tk (fun _ _ _ _ h => h)) (pa_cons (pv 2) (pa_cons (pv 3) pa_nil))))
      (pss_cons (ps_if (pt_not (pt_val (pe_call G_ends_closing (hr.mono (by omega)) (by rfl) T.m_ends_closing T.F_ends_closing.kp T.b_ends_closing .nil pass0 (pa_cons (pv 2) (pa_cons (pv 3) pa_nil))))) (pss_one (L2N.ps_raise rfl tk (LendN.pmkN_own0 EC_NotClosing.V.oex EC_NotClosing.V.ini EC_NotClosing.V.tI G_E_NotClosing (hr.mono (by omega)) EC_NotClosing.b pass0 (by rfl) EC_NotClosing.V.mgx))) pss_nil)
      (pss_cons (ps_if (pt_not (pt_val (pe_call G_is_alignment (hr.mono (by omega)) (by rfl) T.m_is_alignment T.F_is_alignment.kp T.b_is_alignment .nil pass0 (pa_cons (pv 4) pa_nil)))) (pss_one (L2N.ps_raise rfl tk (LendN.pmkN_own EC_InvalidAlignment.V.oex EC_InvalidAlignment.V.ini EC_InvalidAlignment.V.tI G_E_InvalidAlignment (hr.mono (by omega)) EC_InvalidAlignment.b pass0 (by rfl) EC_InvalidAlignment.V.mgx (pa_cons (pv 4) pa_nil)))) pss_nil)
      (pss_cons (ps_if (pt_not (pt_val (pe_call G_is_scope_of (hr.mono (by omega)) (by rfl) T.m_is_scope_of T.F_is_scope_of.kp T.b_is_scope_of .nil pass0 (pa_cons (pv 2) (pa_cons (pv 5) pa_nil))))) (pss_one (L2N.ps_raise rfl tk (LendN.pmkN_own EC_InvalidScope.V.oex EC_InvalidScope.V.ini EC_InvalidScope.V.tI G_E_InvalidScope (hr.mono (by omega)) EC_InvalidScope.b pass0 (by rfl) EC_InvalidScope.V.mgx (pa_cons (pv 5) pa_nil)))) pss_nil)
      (pss_cons (ps_fld (pv 0) (pv 1) rfl)
      (pss_cons (ps_fld (pv 0) (pv 2) rfl)
      (pss_cons (ps_fld (pv 0) (pv 4) rfl)
      (pss_cons (ps_fld (pv 0) (pv 5) rfl)
      (pss_cons (ps_fld (pv 0) (pv 6) rfl)
      (pss_one (ps_fld (pv 0) (pe_callTy Go.c_list (by rfl) T.n_list boot_list (pa_cons (pv 3) pa_nil)) rfl))))))))))))), ?_⟩
    rw [show L2.start N_Piece___init__ [V.ref x, n, p, r, a, s', kp] = [some (V.ref x), some (n), some (p), some (r), some (a), some (s'), some (kp)] from rfl]
    try dsimp only [cxOf, Cx.nox]
    tm_at "go"
    refine i_is_name gn.dt fun H1 s1 => ?_
    tm_at "go"
    · rename_i q1
      refine i_is_part (gp.same s1).dt fun H2 s2 => ?_
      tm_at "go"
      · rename_i q2
        have S2 : Same H H2 := s1.trans s2
        obtain ⟨pz, rfl⟩ : ∃ z, p = .str z := by
          rcases part_two q2 with rfl | rfl
          · have z := gp.dt
            cases z
            exact ⟨_, rfl⟩
          · have z := gp.dt
            cases z
            exact ⟨_, rfl⟩
        obtain rfl : dp = .str pz := by
          have z := gp.dt
          cases z
          rfl
        have two : pz = "code" ∨ pz = "data" := by
          rcases part_two q2 with h | h
          · cases h; exact .inl rfl
          · cases h; exact .inr rfl
        refine ⟨pz, r, N, rr, rfl, hR.same S2, ?_⟩
        cases e3 : rowsE k pz rr with
        | some e =>
          obtain ⟨e, xs⟩ := e
          exact fun d H' ea => kE _ _ (pieceE3 q1 q2 e3) d H' ⟨Go.freeS S2 ea.new, S2.trans ea.same, ea.at_⟩
        | none =>
          obtain ⟨os, rfl, l16, hos⟩ := rowsE_ok e3
          cases hR with
          | @lst ra xs _ er nA hl hp =>
            have lo : xs.length = os.length := Paired.length hp
            intro v H3 s3
            have S3 : Same H H3 := S2.trans s3
            tm_at "go"
            refine ⟨pz, ra, N, xs, os, rfl, S3 _ _ er, Paired.mapP hp fun _ _ u => u.same S3, by omega, fun np o ho => ?_, fun H4 s4 => ?_⟩
            · have z := hos o ho
              rcases two with rfl | rfl
              · exact z
              · exact absurd rfl np
            · have S4 : Same H H4 := S3.trans s4
              tm_at "go"
              · rename_i q4
                refine i_is_alignment (ga.same S4).dt fun H5 s5 => ?_
                have S5 : Same H H5 := S4.trans s5
                tm_at "go"
                · rename_i q5
                  refine i_is_scope_of (gs.same S5).dt fun H6 s6 => ?_
                  have s06 : Same H H6 := S5.trans s6
                  tm_at "go"
                  · rename_i q6
                    have e0 := s06 _ _ hx
                    refine ⟨n, rfl, .ref x, rfl, x, _, dx, [], rfl, e0, T.cl_Piece, T.n_Piece_name, by show 0 < 1000; decide, ?_⟩
                    refine ⟨.str pz, rfl, .ref x, rfl, x, _, dx, _, rfl, upd_same, T.cl_Piece, T.n_Piece_part, Nat.lt_of_le_of_lt (lenp (n := 0) (Nat.zero_le _)) (by decide), ?_⟩
                    refine ⟨a, rfl, .ref x, rfl, x, _, dx, _, rfl, upd_same, T.cl_Piece, T.n_Piece_alignment, Nat.lt_of_le_of_lt (lenp (lenp (n := 0) (Nat.zero_le _))) (by decide), ?_⟩
                    refine ⟨s', rfl, .ref x, rfl, x, _, dx, _, rfl, upd_same, T.cl_Piece, T.n_Piece_scope, Nat.lt_of_le_of_lt (lenp (lenp (lenp (n := 0) (Nat.zero_le _)))) (by decide), ?_⟩
                    refine ⟨kp, rfl, .ref x, rfl, x, _, dx, _, rfl, upd_same, T.cl_Piece, T.n_Piece_keep, Nat.lt_of_le_of_lt (lenp (lenp (lenp (lenp (n := 0) (Nat.zero_le _))))) (by decide), ?_⟩
                    have nrx : ra ≠ x := fun z => by rw [z, hx] at er; cases er
                    have st : ∀ {G : Hp} {o : HO}, Stp x H G → Stp x H (upd G x o) := fun s => s.trans Stp.put
                    have st0 : Stp x H H6 := fun a o _ e => s06 a o e
                    have st5 := st (st (st (st (st (o := .ins Z.C_Piece dx (putF "name" n [])) st0) (o := .ins Z.C_Piece dx (putF "part" (.str pz) (putF "name" n [])))) (o := .ins Z.C_Piece dx (putF "alignment" a (putF "part" (.str pz) (putF "name" n []))))) (o := .ins Z.C_Piece dx (putF "scope" s' (putF "alignment" a (putF "part" (.str pz) (putF "name" n [])))))) (o := .ins Z.C_Piece dx (putF "keep" kp (putF "scope" s' (putF "alignment" a (putF "part" (.str pz) (putF "name" n []))))))
                    refine ⟨.ref ra, rfl, ra, xs, rfl, .inl (SqL.of (st5 _ _ nrx er)), fun q hq => ?_⟩
                    have nq : q ≠ x := fun e => by rw [e, upd_same] at hq; cases hq
                    refine ⟨.ref x, rfl, x, _, dx, _, rfl, by rw [upd_ne nq.symm]; exact upd_same, T.cl_Piece, T.n_Piece__rows, Nat.lt_of_le_of_lt (lenp (lenp (lenp (lenp (lenp (n := 0) (Nat.zero_le _)))))) (by decide), ?_⟩
                    exact kV os (pieceE7 q1 q2 e3 q4 q5 q6) rfl _ q _ xs ((st5.trans (Stp.new hq)).trans Stp.put) upd_same (by rw [lookup_putF, if_neg (by decide), lookup_putF, if_neg (by decide), lookup_putF, if_neg (by decide), lookup_putF, if_neg (by decide), lookup_putF, if_neg (by decide), lookup_putF, if_pos rfl]) (by rw [lookup_putF, if_pos rfl]) (by rw [upd_ne nq]; exact upd_same) lo
                  · rename_i q6
                    obtain ⟨c, hs, hl⟩ := gs.shows q6
                    exact mk_err rfl (Shows.same s06 hs) hl fun d G' e => kE _ _ (pieceE6 q1 q2 e3 q4 q5 q6) d G' ⟨Go.freeS s06 e.new, s06.trans e.same, e.at_⟩
                · rename_i q5
                  obtain ⟨c, hs, hl⟩ := ga.shows q5
                  exact mk_err rfl (Shows.same S5 hs) hl fun d G' e => kE _ _ (pieceE5 q1 q2 e3 q4 q5) d G' ⟨Go.freeS S5 e.new, S5.trans e.same, e.at_⟩
              · rename_i q4
                exact mk_err0 fun d G' e => kE _ _ (pieceE4 q1 q2 e3 q4) d G' ⟨Go.freeS S4 e.new, S4.trans e.same, e.at_⟩
      · rename_i q2
        obtain ⟨c, hs, hl⟩ := gp.shows q2
        exact mk_err rfl (Shows.same (s1.trans s2) hs) hl fun d G' e => kE _ _ (pieceE2 q1 q2) d G' ⟨Go.freeS (s1.trans s2) e.new, (s1.trans s2).trans e.same, e.at_⟩
    · rename_i q1
      obtain ⟨c, hs, hl⟩ := gn.shows q1
      exact mk_err rfl (Shows.same s1 hs) hl fun d G' e => kE _ _ (pieceE1 q1) d G' ⟨Go.freeS s1 e.new, s1.trans e.same, e.at_⟩
end

open Lend LamX NdefX SupX DicX
/-! ### dicts whose keys are texts; lists or tuples of what has a name -/
/-- the texts that stand in a dict -/
def DNm (H : Hp) (D : Addr) (ns : List Str) : Prop := ∃ kvs : List (Key × V), H D = some (.dK kvs) ∧ kvs.length ≤ ns.length ∧ ∀ n : Str, (valV kvs (.inr n)).isSome = decide (n ∈ ns)
theorem DNm.nil {H : Hp} {D : Addr} (h : H D = some (.dK [])) : DNm H D [] := ⟨[], h, Nat.le_refl _, fun n => by simp [valV]⟩
theorem DNm.same {H H' : Hp} {D : Addr} {ns : List Str} (s : Same H H') (h : DNm H D ns) : DNm H' D ns := by
  obtain ⟨kvs, h1, h2⟩ := h
  exact ⟨kvs, s _ _ h1, h2⟩
theorem DNm.put {H : Hp} {D : Addr} {ns : List Str} {n : Str} {v : V} (h : DNm H D ns) (l : ns.length < sizeLine) :
    ∃ H', DPut H D (.str n) v H' ∧ Go.But D H H' ∧ DNm H' D (n :: ns) := by
  obtain ⟨kvs, h1, h2, h3⟩ := h
  refine ⟨_, DPut.k (k := .inr n) h1 (by omega), fun a o ne e => by rw [upd_ne ne]; exact e, _, upd_same, ?_, fun m => ?_⟩
  · have := length_putK kvs (.inr n) v
    simp only [List.length_cons]
    omega
  · rw [valV_put]
    by_cases e : m = n
    · subst e
      simp
    · rw [if_neg (by intro z; exact e (Sum.inr.inj z)), h3]
      simp [e]
/-- y in d -/
def DInR (y x : V) (H : Hp) (Q : VK) : Prop := ∃ a o, x = .ref a ∧ DGet H a y o ∧ Q (.bl o.isSome) H
def DPutR (x y v : V) (H : Hp) (k : Hp → Prop) : Prop := ∃ a H', x = .ref a ∧ DPut H a y v H' ∧ k H'
section
variable {σ : L2.St} {H : Hp} {Q : VK} {td ty tv : TE} {D : Ends} {K : PySem.W.Frag}
theorem dIn (q : ty σ H fun y H1 => td σ H1 fun x H2 => DInR y x H2 Q) : tDIn ty td σ H Q := q
theorem dInN {a : Addr} {n : Str} {ns : List Str} (h : DNm H a ns) (q : Q (.bl (decide (n ∈ ns))) H) : DInR (.str n) (.ref a) H Q := by
  obtain ⟨kvs, h1, _, h3⟩ := h
  refine ⟨a, _, rfl, DGet.k (k := .inr n) h1, ?_⟩
  rw [h3]
  exact q
theorem dNew (q : ∀ p H1, H p = none → Same H H1 → H1 p = some (.dK []) → Q (.ref p) H1) : tDNewK σ H Q := fun p hp => q p _ hp (Go.Sn hp) upd_same
theorem dPut (q : tv σ H fun v H1 => td σ H1 fun x H2 => ty σ H2 fun y H3 => DPutR x y v H3 fun H4 => D.nx σ H4) : sDPut td ty tv D σ H := by
  obtain ⟨N, R, B, C⟩ := D
  exact q
theorem dPutN {a : Addr} {n : Str} {v : V} {ns : List Str} {k : Hp → Prop} (h : DNm H a ns) (l : ns.length ≤ 100000) (q : ∀ H', Go.But a H H' → DNm H' a (n :: ns) → k H') : DPutR (.ref a) (.str n) v H k := by
  obtain ⟨H', h1, h2, h3⟩ := h.put (v := v) (n := n) (Go.lt_line l)
  exact ⟨a, H', rfl, h1, q H' h2 h3⟩
/-- a list or a tuple is walked -/
def SeqP (K : PySem.W.Frag) (H : Hp) (x : V) (T : It → Prop) : Prop := ∃ a, x = .ref a ∧ (((∃ xs, SqL K H a xs) ∧ T (Itl K a)) ∨ ((∃ xs, SqT K H a xs) ∧ T (Itt K a)))
theorem itSeq {tl : TE} {T : It → Hp → Prop} (q : tl σ H fun x H1 => SeqP K H1 x fun J => T J H1) : iSeq K tl σ H T := q
end
/-- {k: v for ..} -/
def DcEnd (D : Addr) (I : Hp → Prop) (y v : V) (H5 : Hp) : Prop := ∃ kvs k, y = kV k ∧ H5 D = some (.dK kvs) ∧ kvs.length < sizeLine ∧ I (upd H5 D (.dK (putK kvs k v)))
def DcG (J : It) (g : TG) (tt : TT) (tk tv : TE) (vs : List Nat) : L2.St → Hp → VK → Prop := fun σ H1 Q => ∀ D, H1 D = none → ∃ W : Nat → Nat → Hp → Prop, (∃ m, W 0 m (upd H1 D (.dK []))) ∧ ∀ i m H, W i m H →
  (J.stop i H ∧ Q (.ref D) H) ∨ (J.go i H ∧ ∃ Nx : Hp → Prop, (∀ H', Nx H' → ∃ m', m' < m ∧ W (i + 1) m' H') ∧ ∀ x H', J.yld i H x H' → g x (wipe σ vs) H' fun σ2 H2 => wipe σ2 vs = wipe σ vs ∧ tt σ2 H2 fun b H3 =>
    if b = true then tk σ2 H3 fun y H4 => tv σ2 H4 fun z H5 => DcEnd D Nx y z H5 else Nx H3)
theorem dcG {wi : TI} {g : TG} {tt : TT} {tk tv : TE} {vs : List Nat} {σ : L2.St} {H : Hp} {Q : VK} (q : wi σ H fun J H1 => DcG J g tt tk tv vs σ H1 Q) : tDc wi g tt tk tv vs σ H Q := q
theorem dc_w {J : It} {n : Nat} {G : Hp → Prop} {Y : Nat → Hp → V → Hp → Prop} {g : TG} {tt : TT} {tk tv : TE} {vs : List Nat} {σ σ0 : L2.St} {H1 : Hp} {Q : VK} (w : Walk J n G Y) (I : Addr → Nat → Hp → Prop) (ew : wipe σ vs = σ0)
    (h0 : ∀ D H2, H1 D = none → Same H1 H2 → H2 D = some (.dK []) → I D 0 H2) (hG : ∀ D i H, i ≤ n → I D i H → G H)
    (hs : ∀ D i x H H', i < n → I D i H → Y i H x H' → g x σ0 H' fun σ2 H2 => wipe σ2 vs = σ0 ∧ tt σ2 H2 fun b H3 => Go.Way b (tk σ2 H3 fun y H4 => tv σ2 H4 fun z H5 => DcEnd D (I D (i + 1)) y z H5) (I D (i + 1) H3))
    (hd : ∀ D H, I D n H → Q (.ref D) H) : DcG J g tt tk tv vs σ H1 Q := by
  subst ew
  intro D hD
  refine ⟨fun i m H => m = n - i ∧ i ≤ n ∧ I D i H, ⟨n, by simp, Nat.zero_le _, h0 D _ hD (Go.Sn hD) upd_same⟩, ?_⟩
  rintro i m H ⟨rfl, hi, p⟩
  have q := hG D i H hi p
  by_cases hlt : i < n
  · refine .inr ⟨w.goes i H hlt q, I D (i + 1), fun H' p' => ⟨n - (i + 1), by omega, rfl, hlt, p'⟩, fun x H' y => ?_⟩
    have z := hs D i x H H' hlt p (w.yields i H x H' hlt q y)
    simp only [← Go.way_if] at z
    exact z
  · have e : i = n := by omega
    subst e
    exact .inl ⟨w.stops H q, hd D H p⟩
theorem dcEndN {D : Addr} {I : Hp → Prop} {n : Str} {v : V} {ns : List Str} {H : Hp} (h : DNm H D ns) (l : ns.length ≤ 100000) (q : ∀ H', Go.But D H H' → DNm H' D (n :: ns) → I H') : DcEnd D I (.str n) v H := by
  obtain ⟨kvs, h1, h2, h3⟩ := h
  refine ⟨kvs, .inr n, rfl, h1, Go.lt_line (by omega), q _ (fun a o ne e => by rw [upd_ne ne]; exact e) ⟨_, upd_same, ?_, fun m => ?_⟩⟩
  · have := length_putK kvs (.inr n) v
    simp only [List.length_cons]
    omega
  · rw [valV_put]
    by_cases e : m = n
    · subst e
      simp
    · rw [if_neg (by intro z; exact e (Sum.inr.inj z)), h3]
      simp [e]
/-- a list or a tuple -/
def SeqA (K : PySem.W.Frag) (H : Hp) (r : Addr) (vs : List V) : Prop := SqL K H r vs ∨ SqT K H r vs
theorem SeqA.same {K : PySem.W.Frag} {H H' : Hp} {r : Addr} {vs : List V} (s : Same H H') (h : SeqA K H r vs) : SeqA K H' r vs := h.imp (fun q => s.seq q) (fun q => Same.sqT s q)
theorem seqP {K : PySem.W.Frag} {H H1 : Hp} {a : Addr} {xs : List V} {T : It → Prop} (h : SeqA K H a xs) (s1 : Same H H1) (q : ∀ (J : It) (G : Hp → Prop), Walk J xs.length G (YAt xs) → (∀ H', Same H H' → G H') → T J) : SeqP K H1 (.ref a) T := by
  rcases h with h | h
  · exact ⟨a, rfl, .inl ⟨⟨xs, s1.seq h⟩, q _ _ walk_list fun H' s => s.seq h⟩⟩
  · exact ⟨a, rfl, .inr ⟨⟨xs, Same.sqT s1 h⟩, q _ _ walk_tup fun H' s => Same.sqT s h⟩⟩
theorem walkET {K : PySem.W.Frag} {a : Addr} {xs : List V} : Walk (IteT K a) xs.length (fun H => SqT K H a xs) (YE xs) :=
  walk_enumT.mono (fun _ h => h) fun i H x H1 _ _ ⟨T, u, t, e1, e2, e3, e4, e5⟩ => by
    cases e4
    exact ⟨T, t, e1, e2, e3 ▸ Go.Sn e2, e3 ▸ upd_same, e5⟩
theorem enumP {K : PySem.W.Frag} {H H1 : Hp} {a : Addr} {xs : List V} {R : It → Hp → Prop} (h : SeqA K H a xs) (s1 : Same H H1) (q : ∀ (J : It) (G : Hp → Prop), Walk J xs.length G (YE xs) → (∀ H', Same H H' → G H') → R J H1) :
    ∃ b ys, ([.ref a] : List V) = [.ref b] ∧ ((SqL K H1 b ys ∧ R (Ite K b) H1) ∨ (SqT K H1 b ys ∧ R (IteT K b) H1)) := by
  rcases h with h | h
  · exact ⟨a, xs, rfl, .inl ⟨s1.seq h, q _ _ walkE fun H' s => s.seq h⟩⟩
  · exact ⟨a, xs, rfl, .inr ⟨Same.sqT s1 h, q _ _ walkET fun H' s => Same.sqT s h⟩⟩
theorem iEnumP {K : PySem.W.Frag} {H H1 : Hp} {a : Addr} {xs : List V} {σ : L2.St} {ta : TA} {R : It → Hp → Prop} (h : SeqA K H a xs) (s1 : Same H H1) (ht : ∀ Q : List V → Hp → Prop, Q [.ref a] H1 → ta σ H1 Q)
    (q : ∀ (J : It) (G : Hp → Prop), Walk J xs.length G (YE xs) → (∀ H', Same H H' → G H') → R J H1) : iEnumA K ta σ H1 R := ht _ (enumP h s1 q)
/-- a text that can be shown -/
def Sho (n : Str) : Prop := (reprText n).length ≤ 4000
theorem Sho.shows {K : PySem.W.Frag} {H : Hp} {n : Str} (h : Sho n) : ∃ c, Shows K H (.str n) c ∧ c ≤ 5000 := ⟨4000, .inl ⟨_, .str n (Nat.le_trans h (by decide)), h⟩, by decide⟩
/-- an instance with the name n -/
def Nmd (K : PySem.W.Frag) (H : Hp) (x : V) (n : Str) : Prop := ∃ a C dx fs, x = .ref a ∧ H a = some (.ins C dx fs) ∧ Cls K C ∧ NoAttr K C "name" ∧ fs.lookup ("name" : Str) = some (.str n) ∧ Sho n
theorem Nmd.same {K : PySem.W.Frag} {H H' : Hp} {x : V} {n : Str} (s : Same H H') (h : Nmd K H x n) : Nmd K H' x n := by
  obtain ⟨a, C, dx, fs, e, h1, h2⟩ := h
  exact ⟨a, C, dx, fs, e, s _ _ h1, h2⟩
theorem Nmd.sho {K : PySem.W.Frag} {H : Hp} {x : V} {n : Str} (h : Nmd K H x n) : Sho n := by
  obtain ⟨a, C, dx, fs, e, h1, h2, h3, h4, h5⟩ := h
  exact h5
theorem fldN {K : PySem.W.Frag} {x : V} {n : Str} {σ : L2.St} {H : Hp} {Q : VK} {ta : TE} (h : Nmd K H x n) (ht : ∀ Q : VK, Q x H → ta σ H Q) (q : Q (.str n) H) : tFld K ta "name" σ H Q := by
  obtain ⟨a, C, dx, fs, e, h1, h2, h3, h4, _⟩ := h
  exact ht _ ⟨a, C, dx, fs, _, e, h1, h2, h3, h4, q⟩
/-! ### names that come twice, names outside -/
def kDn (D : Addr) : EKind := ⟨D, "DuplicateName", ["name"]⟩
def kOu (D : Addr) : EKind := ⟨D, "InvalidOutside", ["at"]⟩
def dupA : List Str → List Str → Option Str
  | _, [] => none
  | acc, n :: r => if n ∈ acc then some n else dupA (n :: acc) r
def dupE (D : Addr) (ns : List Str) : Option (EKind × List V) := (dupA [] ns).map fun n => (kDn D, [.str n])
def outA : List Str → Nat → List V → Option Nat
  | _, _, [] => none
  | acc, i, v :: r => if nmV v = true then match v with
    | .str n => if n ∈ acc then some i else outA (n :: acc) (i + 1) r
    | _ => some i
    else some i
def outE (D : Addr) (ns : List Str) (xs : List V) : Option (EKind × List V) := (outA ns.reverse 0 xs).map fun i => (kOu D, [.int ((i : Nat) : Int)])
theorem outA_no {acc : List Str} {i : Nat} {v : V} {r : List V} (h : nmV v = false) : outA acc i (v :: r) = some i := by
  cases v <;> simp [outA, h]
theorem outA_in {acc : List Str} {i : Nat} {n : Str} {r : List V} (h : nmV (.str n) = true) (c : n ∈ acc) : outA acc i (.str n :: r) = some i := by simp [outA, h, c]
theorem outA_go {acc : List Str} {i : Nat} {n : Str} {r : List V} (h : nmV (.str n) = true) (c : ¬ n ∈ acc) : outA acc i (.str n :: r) = outA (n :: acc) (i + 1) r := by simp [outA, h, c]
theorem nmV_str {v : V} (h : nmV v = true) : ∃ n, v = .str n := by
  cases v with
  | str n => exact ⟨n, rfl⟩
  | _ => cases h
theorem take_rev {α : Type} {ns : List α} {i : Nat} {n : α} (h : ns[i]? = some n) : (ns.take (i + 1)).reverse = n :: (ns.take i).reverse := by
  rw [List.take_add_one, h]
  simp
theorem drop_at {α : Type} {ns : List α} {i : Nat} {n : α} (h : ns[i]? = some n) : ns.drop i = n :: ns.drop (i + 1) := by
  obtain ⟨hi, e⟩ := List.getElem?_eq_some_iff.mp h
  rw [List.drop_eq_getElem_cons hi, e]
local macro_rules | `(tactic| tm_at "sp") => `(tactic| first
  | ((with_reducible refine' dPutN ?a ?b ?_); (case a => assumption); (case b => (simp only [List.length_reverse, List.length_append, List.length_take]; omega)); intro _ _ _)
  | fail)
local macro_rules | `(tactic| tm_at "sp") => `(tactic| first
  | with_reducible refine dcG ?_
  | ((with_reducible refine' dInN ?a ?_); (case a => assumption))
  | (with_reducible refine dNew fun _ _ _ _ _ => ?_)
  | fail)
local macro_rules | `(tactic| tm_at "sp") => `(tactic| first
  | with_reducible refine dIn ?_
  | with_reducible refine itSeq ?_
  | with_reducible refine dPut ?_
  | fail)
section
variable {P : Program} {w : World} {K : PySem.W.Frag} {mg : Str → Option Value} {base : Heap} {Z : Fs}
def sp_names (K : PySem.W.Frag) : Sp := fun vs H Q _ => ∃ (a : Addr) (xs : List V) (ns : List Str), vs = [.ref a] ∧ SeqA K H a xs ∧ Paired (Nmd K H) xs ns ∧ xs.length ≤ 1000 ∧ ∀ H' p, Same H H' → H p = none → H' p = some (.lst (ns.map V.str)) → Q (.ref p) H'
theorem ok_names (T : Txt K w mg Z) : FnOk P w K mg base CX0 1 Z.a_names Z.d_names ["parts"] (sp_names K) := by
  refine T.F_names.ok sc_names (fun vs H Q E h => ?_) (fun cdv A outer s H vs Q E hr h => ?_)
  · obtain ⟨a, xs, ns, rfl, _⟩ := h
    rfl
  · obtain ⟨a, xs, ns, rfl, hs, hp, hl, k⟩ := h
    refine ⟨_, (pss_one (ps_ret (pe_lc (own := [("part", 1)]) (g := gName 1) (tt := tYes) rfl sc_names.nd (DicX.pi_seq (pv 0)) (blkOk_by (N := N_names) (sc := defScope s_names) (by decide +kernel)) (fun _ _ _ _ _ => pg_name (i := 1) sc_names.nd rfl (Or.inl rfl)) (fun _ _ _ _ _ => pts_nil) (fun _ _ _ _ _ => (DicX.pe_fldK (K := K) rfl (pv 1) rfl))))), ?_⟩
    rw [show L2.start N_names [V.ref a] = [some (V.ref a), none] from rfl]
    try dsimp only [cxOf, Cx.nox]
    have lo : xs.length = ns.length := Paired.length hp
    tm_at "go"
    refine seqP hs (by tm_at "same") fun J G wk hG => ?_
    refine Go.lc_w wk (fun L i H' => Same H H' ∧ H L = none ∧ H' L = some (.lst ((ns.take i).map V.str))) (by tm_at "wipe") ?_ ?_ ?_ ?_
    · intro L H2 n0 s2 e2
      exact ⟨s2, n0, e2⟩
    · intro L i H2 hi ⟨s2, _⟩
      exact hG H2 s2
    · rintro L i v H2 H3 hi ⟨s2, nL, e2⟩ ⟨rfl, hv⟩
      obtain ⟨n, hn, nm⟩ := Paired.get2 hp hv
      tm_at "go"
      refine fldN (nm.same s2) (fun Q q => ⟨_, rfl, q⟩) ?_
      refine Go.lcEnd e2 (Go.lt_line (by simp; omega)) fun H6 s6 e6 => ?_
      refine ⟨Go.Same.own s2 nL s6, nL, ?_⟩
      rw [e6, List.take_add_one, hn]
      simp
    · rintro L H2 ⟨s2, nL, e2⟩
      rw [lo, List.take_length] at e2
      exact k H2 L s2 nL e2
structure Ln (P : Program) (K : PySem.W.Frag) (mg : Str → Option Value) (kd ko : Addr) : Prop where
  PS : ProgS P FL
  d : ∃ f fd, EC K mg "DuplicateName" "DuplicateName.__init__" s_E_DuplicateName (kDn kd) f fd
  o : ∃ f fd, EC K mg "InvalidOutside" "InvalidOutside.__init__" s_E_InvalidOutside (kOu ko) f fd
theorem ok_E_DuplicateName {P : Program} {w : World} {K : PySem.W.Frag} {mg : Str → Option Value} {base : Heap} {D f : Addr} {fd : FuncData} (PS : ProgS P FL) (EC_ : EC K mg "DuplicateName" "DuplicateName.__init__" s_E_DuplicateName ⟨D, "DuplicateName", ["name"]⟩ f fd) :
    FnOk P w K mg base C8.CX0 1 f fd ["self", "name"] (sp_err1 K D "name" "DuplicateName") :=
  ok_err1 (te := fun K σ H Q => tJs [tC (.str "the name "), tFmtX K (tVar 1), tC (.str " stands twice")] Str.empty σ H fun out H1 => Q (.str out) H1) PS EC_ (nscope_by (by decide +kernel)) (by decide +kernel) rfl (fun _ => rfl) (fun _ => rfl) (fun _ => rfl) (.inl (by decide +kernel)) (.inl (by decide +kernel)) (by decide) (by decide)
    (fun X hr hn hv => pe_joined (.cons pe_str (.cons (pe_fmtX hr (pe_var (i := 1) hn hv)) (.cons pe_str .nil)))) (fun σ H Q v c hv hs hc k => txt_mid (by decide +kernel) (by decide +kernel) hv hs hc k)

theorem ok_E_InvalidOutside {P : Program} {w : World} {K : PySem.W.Frag} {mg : Str → Option Value} {base : Heap} {D f : Addr} {fd : FuncData} (PS : ProgS P FL) (EC_ : EC K mg "InvalidOutside" "InvalidOutside.__init__" s_E_InvalidOutside ⟨D, "InvalidOutside", ["at"]⟩ f fd) :
    FnOk P w K mg base C8.CX0 1 f fd ["self", "at"] (sp_err1 K D "at" "InvalidOutside") :=
  ok_err1 (te := fun K σ H Q => tJs [tC (.str "item "), tFmtX K (tVar 1), tC (.str " cannot be an outside name")] Str.empty σ H fun out H1 => Q (.str out) H1) PS EC_ (nscope_by (by decide +kernel)) (by decide +kernel) rfl (fun _ => rfl) (fun _ => rfl) (fun _ => rfl) (.inl (by decide +kernel)) (.inl (by decide +kernel)) (by decide) (by decide)
    (fun X hr hn hv => pe_joined (.cons pe_str (.cons (pe_fmtX hr (pe_var (i := 1) hn hv)) (.cons pe_str .nil)))) (fun σ H Q v c hv hs hc k => txt_mid (by decide +kernel) (by decide +kernel) hv hs hc k)

def sp_check_names (K : PySem.W.Frag) (kd : Addr) : Sp := fun vs H Q E => ∃ (a : Addr) (xs : List V) (ns : List Str), vs = [.ref a] ∧ SeqA K H a xs ∧ Paired (Nmd K H) xs ns ∧ xs.length ≤ 1000 ∧ EndsSo (dupE kd ns) H Q E
theorem ok_check_names {kd ko : Addr} (T : Txt K w mg Z) (L : Ln P K mg kd ko) : FnOk P w K mg base (L2N.CX P w) 5 Z.a_check_names Z.d_check_names ["parts"] (sp_check_names K kd) := by
  obtain ⟨f4, fd4, EC_DuplicateName⟩ := L.d
  have G_E_DuplicateName := ok_E_DuplicateName (P := P) (w := w) (base := base) L.PS EC_DuplicateName
  refine LendN.okN T.F_check_names sc_check_names (fun vs H Q E h => ?_) (fun cdv A outer s H vs Q E hr h => ?_)
  · obtain ⟨a, xs, ns, rfl, _⟩ := h
    rfl
  · obtain ⟨a, xs, ns, rfl, hs, hp, hl, en⟩ := h
    have tk : L2N.Takes (cxOf (L2N.CX P w) P w K mg base N_check_names "check_names" (defScope s_check_names) Z.a_check_names cdv A outer s H E) (fun cls d _ H => E cls d H) := L2N.takes_of (E₁ := fun e' s'' => L2N.CX P w outer H s E e' s'') rfl rfl rfl rfl
    refine ⟨_, (pss_cons (ps_set (i := 1) sc_check_names.nd rfl (Or.inl rfl) pe_dnewK)
      (pss_one (ps_for (passes_of rfl) rfl (DicX.pi_seq (pv 0)) (pg_name (i := 2) sc_check_names.nd rfl (Or.inl rfl)) (pss_cons (ps_if (pt_cmp (pc_din (DicX.units1 hr) (pe_fld (pv 2) rfl) (pv 1))) (pss_one (L2N.ps_raise rfl tk (LendN.pmkN_own EC_DuplicateName.V.oex EC_DuplicateName.V.ini EC_DuplicateName.V.tI G_E_DuplicateName (hr.mono (by omega)) EC_DuplicateName.b pass0 (by rfl) EC_DuplicateName.V.mgx (pa_cons (pe_fld (pv 2) rfl) pa_nil)))) pss_nil)
      (pss_one (ps_dput (DicX.units1 hr) (pv 1) (pe_fld (pv 2) rfl) pe_bl rfl)))))), ?_⟩
    rw [show L2.start N_check_names [V.ref a] = [some (V.ref a), none, none] from rfl]
    try dsimp only [cxOf, Cx.nox]
    have lo : xs.length = ns.length := Paired.length hp
    tm_at "go"
    rename_i D H1 nD sD eD
    refine seqP hs sD fun J G wk hG => ?_
    refine Go.for_w wk (fun i σ H' => ∃ y2, σ = [some (.ref a), some (.ref D), y2] ∧ Same H H' ∧ DNm H' D (ns.take i).reverse ∧ dupA [] ns = dupA (ns.take i).reverse (ns.drop i)) ⟨_, rfl, sD, DNm.nil eD, rfl⟩ (fun i σ H' _ ⟨_, _, sG, _⟩ => hG H' sG) ?_ ?_
    · rintro i x σ G1 G2 hi ⟨y2, rfl, sG, dG, eG⟩ ⟨rfl, hx⟩
      obtain ⟨n, hn, nm⟩ := Paired.get2 hp hx
      tm_at "go"
      refine fldN (nm.same sG) (fun Q q => ⟨_, rfl, q⟩) ?_
      tm_at "go"
      · rename_i c
        refine mk_errT (fun Q q => fldN (nm.same sG) (fun Q q => ⟨_, rfl, q⟩) q) nm.sho.shows fun d G' e => en.er (e := kDn kd) ?_ sG e
        rw [dupE, eG, drop_at hn, dupA, if_pos c]
        rfl
      · rename_i c
        refine fldN (nm.same sG) (fun Q q => ⟨_, rfl, q⟩) ?_
        tm_at "go"
        rename_i G3 b3 d3
        refine ⟨_, rfl, Go.Same.own sG nD b3, ?_, ?_⟩
        · rw [take_rev hn]
          exact d3
        · rw [eG, drop_at hn, dupA, if_neg c, take_rev hn]
    · rintro σ G1 ⟨y2, rfl, sG, dG, eG⟩
      refine en.ok ?_ sG
      rw [dupE, eG, lo, List.drop_length]
      rfl
def sp_check_outside (K : PySem.W.Frag) (ko : Addr) : Sp := fun vs H Q E => ∃ (a q b : Addr) (xs : List V) (ds : List PyData) (ns : List Str), vs = [.ref a, .ref q] ∧ SeqA K H a xs ∧ Paired (Dt K H b) xs ds ∧ xs.length ≤ 100 ∧ H q = some (.lst (ns.map V.str)) ∧ ns.length ≤ 1000 ∧ EndsSo (outE ko ns xs) H Q E
theorem ok_check_outside {kd ko : Addr} (T : Txt K w mg Z) (L : Ln P K mg kd ko) : FnOk P w K mg base (L2N.CX P w) 5 Z.a_check_outside Z.d_check_outside ["outside", "names"] (sp_check_outside K ko) := by
  obtain ⟨f4, fd4, EC_InvalidOutside⟩ := L.o
  have G_E_InvalidOutside := ok_E_InvalidOutside (P := P) (w := w) (base := base) L.PS EC_InvalidOutside
  have G_is_name := ok_is_name (P := P) (base := base) T
  refine LendN.okN T.F_check_outside sc_check_outside (fun vs H Q E h => ?_) (fun cdv A outer s H vs Q E hr h => ?_)
  · obtain ⟨a, q, b, xs, ds, ns, rfl, _⟩ := h
    rfl
  · obtain ⟨a, q, b, xs, ds, ns, rfl, hs, hp, hl, hq, hn, en⟩ := h
    have tk : L2N.Takes (cxOf (L2N.CX P w) P w K mg base N_check_outside "_check_outside" (defScope s_check_outside) Z.a_check_outside cdv A outer s H E) (fun cls d _ H => E cls d H) := L2N.takes_of (E₁ := fun e' s'' => L2N.CX P w outer H s E e' s'') rfl rfl rfl rfl
    refine ⟨_, (pss_cons (DicX.ps_setDc (i := 2) (own := [("name", 3)]) (g := gName 3) (tt := tYes) rfl sc_check_outside.nd rfl rfl (DicX.sw_dc rfl rfl rfl (by decide +kernel)) (pi_list (pv 1)) (blkOk_by (N := N_check_outside) (sc := defScope s_check_outside) (by decide +kernel)) (fun _ _ _ _ _ => pg_name (i := 3) sc_check_outside.nd rfl (Or.inl rfl)) (fun _ _ _ _ _ => pts_nil) (fun _ _ _ _ _ => (pv 3)) (fun _ _ _ _ _ => pe_bl))
      (pss_one (ps_for (passes_of rfl) rfl (pi_enumA (by rfl) T.n_enumerate (pa_cons (pv 0) pa_nil)) (pg_tup (by rfl) (pgs_cons (pg_name (i := 4) sc_check_outside.nd rfl (Or.inl rfl)) (pgs_cons (pg_name (i := 3) sc_check_outside.nd rfl (Or.inl rfl)) pgs_nil))) (pss_cons (ps_if (PW.pt (pw_or (pt_not (pt_val (pe_call G_is_name (hr.mono (by omega)) (by rfl) T.m_is_name T.F_is_name.kp T.b_is_name .nil pass0 (pa_cons (pv 3) pa_nil)))) (pw_or1 (pt_cmp (pc_din (DicX.units1 hr) (pv 3) (pv 2)))))) (pss_one (L2N.ps_raise rfl tk (LendN.pmkN_own EC_InvalidOutside.V.oex EC_InvalidOutside.V.ini EC_InvalidOutside.V.tI G_E_InvalidOutside (hr.mono (by omega)) EC_InvalidOutside.b pass0 (by rfl) EC_InvalidOutside.V.mgx (pa_cons (pv 4) pa_nil)))) pss_nil)
      (pss_one (ps_dput (DicX.units1 hr) (pv 2) (pv 3) pe_bl rfl)))))), ?_⟩
    rw [show L2.start N_check_outside [V.ref a, V.ref q] = [some (V.ref a), some (V.ref q), none, none, none] from rfl]
    try dsimp only [cxOf, Cx.nox]
    tm_at "go"
    refine dc_w (walk_list (K := K) (xs := ns.map V.str)) (fun D i H' => Same H H' ∧ H D = none ∧ DNm H' D (ns.take i).reverse) (by tm_at "wipe") ?_ ?_ ?_ ?_
    · intro D H2 n0 s2 e2
      exact ⟨s2, n0, DNm.nil e2⟩
    · intro D i H2 hi ⟨s2, _⟩
      exact SqL.of (s2 _ _ hq)
    · rintro D i v H2 H3 hi ⟨s2, nD, dG⟩ ⟨rfl, hv⟩
      rw [List.getElem?_map] at hv
      obtain ⟨n, en1, rfl⟩ := Option.map_eq_some_iff.mp hv
      tm_at "go"
      refine dcEndN dG (by simp only [List.length_reverse, List.length_take]; omega) fun H6 b6 d6 => ⟨Go.Same.own s2 nD b6, nD, ?_⟩
      rw [take_rev en1]
      exact d6
    · rintro D H1 ⟨s1, nD, d1⟩
      rw [List.length_map, List.take_length] at d1
      tm_at "go"
      refine iEnumP hs s1 (fun Q q => ⟨.ref a, rfl, q⟩) fun J G wk hG => ?_
      refine Go.for_w wk (fun i σ H' => ∃ y3 y4, σ = [some (.ref a), some (.ref q), some (.ref D), y3, y4] ∧ Same H H' ∧ ∃ acc, DNm H' D acc ∧ acc.length ≤ 1000 + i ∧ outA ns.reverse 0 xs = outA acc i (xs.drop i)) ⟨_, _, rfl, s1, _, d1, by rw [List.length_reverse]; omega, rfl⟩ (fun i σ H' _ ⟨_, _, _, sG, _⟩ => hG H' sG) ?_ ?_
      · rintro i x σ G1 G2 hi ⟨y3, y4, rfl, sG, acc, dG, la, eG⟩ ⟨Tq, v, rfl, hT, sT, eT, hv⟩
        obtain ⟨d, hd, dv⟩ := Paired.get2 hp hv
        have s2 : Same H G2 := sG.trans sT
        tm_at "go"
        refine i_is_name (dv.same s2) fun G3 s3 => ?_
        tm_at "go"
        · rename_i c
          obtain ⟨n, rfl⟩ := nmV_str c
          have d3 : DNm G3 D acc := (dG.same sT).same s3
          refine dInN d3 ?_
          tm_at "go"
          · rename_i c2
            refine mk_errT (fun Q q => ⟨_, rfl, q⟩) (shows_int (by omega) (by omega)) fun d G' e => en.er (e := kOu ko) ?_ (s2.trans s3) e
            rw [outE, eG, drop_at hv, outA_in c c2]
            rfl
          · rename_i c2
            refine dPutN d3 (by omega) fun G4 b4 d4 => ?_
            refine ⟨_, _, rfl, Go.Same.own (s2.trans s3) nD b4, _, d4, by simp only [List.length_cons]; omega, ?_⟩
            rw [eG, drop_at hv, outA_go c c2]
        · rename_i c
          refine mk_errT (fun Q q => ⟨_, rfl, q⟩) (shows_int (by omega) (by omega)) fun d G' e => en.er (e := kOu ko) ?_ (s2.trans s3) e
          rw [outE, eG, drop_at hv, outA_no c]
          rfl
      · rintro σ G1 ⟨y3, y4, rfl, sG, acc, dG, la, eG⟩
        refine en.ok ?_ sG
        rw [outE, eG, List.drop_length]
        rfl
end

open Lend LamX NdefX SupX DicX
/-! ### a new object is judged -/
def kPc (D : Addr) : EKind := ⟨D, "InvalidPiece", ["at"]⟩
structure Ko where
  (n p m d o : Addr)
structure Lo (P : Program) (K : PySem.W.Frag) (mg : Str → Option Value) (k : Ko) : Prop where
  L : Ln P K mg k.d k.o
  n : ∃ f fd, EC K mg "InvalidName" "InvalidName.__init__" s_E_InvalidName (kNm k.n) f fd
  p : ∃ f fd, EC K mg "InvalidPiece" "InvalidPiece.__init__" s_E_InvalidPiece (kPc k.p) f fd
  m : ∃ f fd, EC K mg "TooMany" "TooMany.__init__" s_E_TooMany (kMn k.m) f fd
theorem ok_E_InvalidPiece {P : Program} {w : World} {K : PySem.W.Frag} {mg : Str → Option Value} {base : Heap} {D f : Addr} {fd : FuncData} (PS : ProgS P FL) (EC_ : EC K mg "InvalidPiece" "InvalidPiece.__init__" s_E_InvalidPiece ⟨D, "InvalidPiece", ["at"]⟩ f fd) :
    FnOk P w K mg base C8.CX0 1 f fd ["self", "at"] (sp_err1 K D "at" "InvalidPiece") :=
  ok_err1 (te := fun K σ H Q => tJs [tC (.str "value "), tFmtX K (tVar 1), tC (.str " is not a piece")] Str.empty σ H fun out H1 => Q (.str out) H1) PS EC_ (nscope_by (by decide +kernel)) (by decide +kernel) rfl (fun _ => rfl) (fun _ => rfl) (fun _ => rfl) (.inl (by decide +kernel)) (.inl (by decide +kernel)) (by decide) (by decide)
    (fun X hr hn hv => pe_joined (.cons pe_str (.cons (pe_fmtX hr (pe_var (i := 1) hn hv)) (.cons pe_str .nil)))) (fun σ H Q v c hv hs hc k => txt_mid (by decide +kernel) (by decide +kernel) hv hs hc k)

/-- what may be an instance of the class C: its name -/
inductive Ofc (K : PySem.W.Frag) (H : Hp) (C : Addr) : V → Option Str → Prop
  | yes {a dx : Addr} {fs : List (Str × V)} {n : Str} : H a = some (.ins C dx fs) → NoAttr K C "name" → fs.lookup ("name" : Str) = some (.str n) → Sho n → Ofc K H C (.ref a) (some n)
  | no {v : V} {t : Value} : (∀ H', Same H H' → TyX K H' v t) → PySem.W.kitOne K t (.ref C) = some false → Ofc K H C v none
theorem Ofc.same {K : PySem.W.Frag} {H H' : Hp} {C : Addr} {v : V} {o : Option Str} (s : Same H H') (h : Ofc K H C v o) : Ofc K H' C v o := by
  cases h with
  | yes h1 h2 h3 h4 => exact .yes (s _ _ h1) h2 h3 h4
  | no h k => exact .no (fun H2 s2 => h H2 (s.trans s2)) k
theorem Ofc.ty {K : PySem.W.Frag} {H : Hp} {C : Addr} {v : V} {o : Option Str} (c : C8.InsC K C) (h : Ofc K H C v o) : ∃ t, TyX K H v t ∧ PySem.W.kitOne K t (.ref C) = some o.isSome := by
  cases h with
  | yes h1 h2 h3 h4 => exact ⟨_, .base (.ins h1 c.cl c.ha c.hn c.htk c.hm), c.me⟩
  | no h k => exact ⟨_, h H (Same.refl _), k⟩
theorem Ofc.nmd {K : PySem.W.Frag} {H : Hp} {C : Addr} {v : V} {n : Str} (c : Cls K C) (h : Ofc K H C v (some n)) : Nmd K H v n := by
  cases h with
  | @yes a dx fs _ h1 h2 h3 h4 => exact ⟨a, C, dx, fs, rfl, h1, c, h2, h3, h4⟩
theorem ofc_all {K : PySem.W.Frag} {H : Hp} {C : Addr} (c : Cls K C) : ∀ {xs : List V} {os : List (Option Str)}, Paired (Ofc K H C) xs os → os.findIdx? (fun o => o.isNone) = none → Paired (Nmd K H) xs (os.filterMap id)
  | _, _, .nil, _ => .nil
  | _, _, .cons (b := none) r t, h => by
    rw [List.findIdx?_cons] at h
    cases h
  | _, _, .cons (b := some n) r t, h => by
    rw [List.findIdx?_cons] at h
    refine .cons (r.nmd c) (ofc_all c t ?_)
    simpa using h
/-- what is handed in as names outside -/
inductive LotV (K : PySem.W.Frag) (H : Hp) (b : Addr) : V → Option (List V) → Prop
  | no {v : V} : flatK v → LotV K H b v none
  | seq {a : Addr} {xs : List V} {ds : List PyData} : SeqA K H a xs → Paired (Dt K H b) xs ds → xs.length ≤ 100 → LotV K H b (.ref a) (some xs)
theorem LotV.same {K : PySem.W.Frag} {H H' : Hp} {b : Addr} {v : V} {o : Option (List V)} (s : Same H H') (h : LotV K H b v o) : LotV K H' b v o := by
  cases h with
  | no h => exact .no h
  | seq h p l => exact .seq (h.same s) (Paired.mapP p fun _ _ e => e.same s) l
theorem lenA {K : PySem.W.Frag} {H : Hp} {a : Addr} {xs : List V} {Q : VK} (h : SeqA K H a xs) (q : Q (.int (xs.length : Nat)) H) : Go.RLen K [.ref a] H Q := h.elim (fun h => Go.lenL h q) fun h => Go.lenT h q
def objE (k : Ko) (nm : V) (os : List (Option Str)) (lot : Option (List V)) (wide : Bool) : Option (EKind × List V) :=
  if nmV nm = false then some (kNm k.n, [nm]) else match os.findIdx? (fun o => o.isNone) with
  | some i => some (kPc k.p, [.int ((i : Nat) : Int)])
  | none => if 8 < os.length ∧ wide = false then some (kMn k.m, [.int 8]) else match dupE k.d (os.filterMap id) with
    | some e => some e
    | none => match lot with
      | none => some (kOu k.o, [.int (-1)])
      | some xs => if 8 < xs.length ∧ wide = false then some (kMn k.m, [.int 8]) else outE k.o (os.filterMap id) xs
section
variable {k : Ko} {nm : V} {os : List (Option Str)} {lot : Option (List V)} {wide : Bool} {xs : List V} {i : Nat} {e : EKind × List V}
theorem objE1 (h : nmV nm = false) : objE k nm os lot wide = some (kNm k.n, [nm]) := by simp [objE, h]
theorem objE2 (h : nmV nm = true) (h2 : os.findIdx? (fun o => o.isNone) = some i) : objE k nm os lot wide = some (kPc k.p, [.int ((i : Nat) : Int)]) := by simp [objE, h, h2]
theorem objE3 (h : nmV nm = true) (h2 : os.findIdx? (fun o => o.isNone) = none) (h3 : 8 < os.length ∧ wide = false) : objE k nm os lot wide = some (kMn k.m, [.int 8]) := by
  unfold objE
  rw [if_neg (by rw [h]; decide), h2]
  exact if_pos h3
theorem objE4 (h : nmV nm = true) (h2 : os.findIdx? (fun o => o.isNone) = none) (h3 : ¬ (8 < os.length ∧ wide = false)) (h4 : dupE k.d (os.filterMap id) = some e) : objE k nm os lot wide = some e := by
  unfold objE
  rw [if_neg (by rw [h]; decide), h2]
  dsimp only
  rw [if_neg h3, h4]
theorem objE5 (h : nmV nm = true) (h2 : os.findIdx? (fun o => o.isNone) = none) (h3 : ¬ (8 < os.length ∧ wide = false)) (h4 : dupE k.d (os.filterMap id) = none) : objE k nm os none wide = some (kOu k.o, [.int (-1)]) := by
  unfold objE
  rw [if_neg (by rw [h]; decide), h2]
  dsimp only
  rw [if_neg h3, h4]
theorem objE6 (h : nmV nm = true) (h2 : os.findIdx? (fun o => o.isNone) = none) (h3 : ¬ (8 < os.length ∧ wide = false)) (h4 : dupE k.d (os.filterMap id) = none) (h5 : 8 < xs.length ∧ wide = false) : objE k nm os (some xs) wide = some (kMn k.m, [.int 8]) := by
  unfold objE
  rw [if_neg (by rw [h]; decide), h2]
  dsimp only
  rw [if_neg h3, h4]
  exact if_pos h5
theorem objE7 (h : nmV nm = true) (h2 : os.findIdx? (fun o => o.isNone) = none) (h3 : ¬ (8 < os.length ∧ wide = false)) (h4 : dupE k.d (os.filterMap id) = none) (h5 : ¬ (8 < xs.length ∧ wide = false)) : objE k nm os (some xs) wide = outE k.o (os.filterMap id) xs := by
  unfold objE
  rw [if_neg (by rw [h]; decide), h2]
  dsimp only
  rw [if_neg h3, h4]
  exact if_neg h5
end
section
variable {P : Program} {w : World} {K : PySem.W.Frag} {mg : Str → Option Value} {base : Heap} {Z : Fs}
def sp_check_object (K : PySem.W.Frag) (C : Addr) (k : Ko) : Sp := fun vs H Q E => ∃ (b p : Addr) (nm ov : V) (d : PyData) (xs : List V) (os : List (Option Str)) (lot : Option (List V)) (wide : Bool), vs = [nm, .ref p, ov, .bl wide] ∧
  Dt K H b nm d ∧ (nmV nm = false → ∃ c, Shows K H nm c ∧ c ≤ 5000) ∧ SeqA K H p xs ∧ Paired (Ofc K H C) xs os ∧ xs.length ≤ 100 ∧ LotV K H b ov lot ∧ EndsSo (objE k nm os lot wide) H Q E
theorem ok_check_object {k : Ko} (T : Txt K w mg Z) (L : Lo P K mg k) : FnOk P w K mg base (L2N.CX P w) 6 Z.a_check_object Z.d_check_object ["name", "pieces", "outside", "is_wide"] (sp_check_object K Z.C_Piece k) := by
  obtain ⟨f4, fd4, EC_InvalidName⟩ := L.n
  obtain ⟨f5, fd5, EC_InvalidPiece⟩ := L.p
  obtain ⟨f6, fd6, EC_TooMany⟩ := L.m
  obtain ⟨f7, fd7, EC_InvalidOutside⟩ := L.L.o
  have G_E_InvalidName := ok_E_InvalidName (P := P) (w := w) (base := base) L.L.PS EC_InvalidName
  have G_E_InvalidPiece := ok_E_InvalidPiece (P := P) (w := w) (base := base) L.L.PS EC_InvalidPiece
  have G_E_TooMany := ok_E_TooMany (P := P) (w := w) (base := base) L.L.PS EC_TooMany
  have G_E_InvalidOutside := ok_E_InvalidOutside (P := P) (w := w) (base := base) L.L.PS EC_InvalidOutside
  have G_is_name := ok_is_name (P := P) (base := base) T
  have G_names := ok_names (P := P) (base := base) T
  have G_check_names := ok_check_names (base := base) T L.L
  have G_check_outside := ok_check_outside (base := base) T L.L
  refine LendN.okN T.F_check_object sc_check_object (fun vs H Q E h => ?_) (fun cdv A outer s H vs Q E hr h => ?_)
  · obtain ⟨b, p, nm, ov, d, xs, os, lot, wide, rfl, _⟩ := h
    rfl
  · obtain ⟨b, p, nm, ov, d, xs, os, lot, wide, rfl, hd, hsh, hs, hp, hl, hv, en⟩ := h
    have lo : xs.length = os.length := Paired.length hp
    have tk : L2N.Takes (cxOf (L2N.CX P w) P w K mg base N_check_object "_check_object" (defScope s_check_object) Z.a_check_object cdv A outer s H E) (fun cls d _ H => E cls d H) := L2N.takes_of (E₁ := fun e' s'' => L2N.CX P w outer H s E e' s'') rfl rfl rfl rfl
    refine ⟨_, (pss_cons (ps_if (pt_not (pt_val (pe_call G_is_name (hr.mono (by omega)) (by rfl) T.m_is_name T.F_is_name.kp T.b_is_name .nil pass0 (pa_cons (pv 0) pa_nil)))) (pss_one (L2N.ps_raise rfl tk (LendN.pmkN_own EC_InvalidName.V.oex EC_InvalidName.V.ini EC_InvalidName.V.tI G_E_InvalidName (hr.mono (by omega)) EC_InvalidName.b pass0 (by rfl) EC_InvalidName.V.mgx (pa_cons (pv 0) pa_nil)))) pss_nil)
      (pss_cons (ps_for (passes_of rfl) rfl (pi_enumA (by rfl) T.n_enumerate (pa_cons (pv 1) pa_nil)) (pg_tup (by rfl) (pgs_cons (pg_name (i := 4) sc_check_object.nd rfl (Or.inl rfl)) (pgs_cons (pg_name (i := 5) sc_check_object.nd rfl (Or.inl rfl)) pgs_nil))) (pss_one (ps_if (pt_not (pt_val (pe_callB (call_isi : CallR _ _ (rIsi K)) (by rfl) T.n_isinstance boot_isinstance (pa_cons (pv 5) (pa_cons (pe_glob (v := .ref Z.C_Piece) (by rfl) T.m_Piece rfl) pa_nil))))) (pss_one (L2N.ps_raise rfl tk (LendN.pmkN_own EC_InvalidPiece.V.oex EC_InvalidPiece.V.ini EC_InvalidPiece.V.tI G_E_InvalidPiece (hr.mono (by omega)) EC_InvalidPiece.b pass0 (by rfl) EC_InvalidPiece.V.mgx (pa_cons (pv 4) pa_nil)))) pss_nil)))
      (pss_cons (ps_if (PW.pt (pw_and (pt_cmpR op_gt (pe_callB (Go.c_len : CallR _ _ (Go.RLen K)) (by rfl) T.n_len boot_len (pa_cons (pv 1) pa_nil)) (pe_glob (v := .int 8) (by rfl) (Classical.choose_spec T.g_MOST_PIECES) ⟨_, rfl⟩) (nomark _)) (pw_and1 (pt_not (pt_val (pv 3)))))) (pss_one (L2N.ps_raise rfl tk (LendN.pmkN_own EC_TooMany.V.oex EC_TooMany.V.ini EC_TooMany.V.tI G_E_TooMany (hr.mono (by omega)) EC_TooMany.b pass0 (by rfl) EC_TooMany.V.mgx (pa_cons (pe_glob (v := .int 8) (by rfl) (Classical.choose_spec T.g_MOST_PIECES) ⟨_, rfl⟩) pa_nil)))) pss_nil)
      (pss_cons (ps_expr (pe_call G_check_names (hr.mono (by omega)) (by rfl) T.m_check_names T.F_check_names.kp T.b_check_names .nil (L2N.passes_call tk (fun _ _ _ _ h => h)) (pa_cons (pv 1) pa_nil)))
      (pss_cons (ps_if (pt_not (pt_val (pe_callB (call_isiT : CallR _ _ (rIsiT K)) (by rfl) T.n_isinstance boot_isinstance (pa_cons (pv 2) (pa_cons (pe_tup (pa_cons (pe_bltn (v := .ty "list") (by rfl) T.n_list boot_list rfl) (pa_cons (pe_bltn (v := .ty "tuple") (by rfl) T.n_tuple boot_tuple rfl) pa_nil))) pa_nil))))) (pss_one (L2N.ps_raise rfl tk (LendN.pmkN_own EC_InvalidOutside.V.oex EC_InvalidOutside.V.ini EC_InvalidOutside.V.tI G_E_InvalidOutside (hr.mono (by omega)) EC_InvalidOutside.b pass0 (by rfl) EC_InvalidOutside.V.mgx (pa_cons (pe_un un_neg pe_int) pa_nil)))) pss_nil)
      (pss_cons (ps_if (PW.pt (pw_and (pt_cmpR op_gt (pe_callB (Go.c_len : CallR _ _ (Go.RLen K)) (by rfl) T.n_len boot_len (pa_cons (pv 2) pa_nil)) (pe_glob (v := .int 8) (by rfl) (Classical.choose_spec T.g_MOST_OUTSIDE) ⟨_, rfl⟩) (nomark _)) (pw_and1 (pt_not (pt_val (pv 3)))))) (pss_one (L2N.ps_raise rfl tk (LendN.pmkN_own EC_TooMany.V.oex EC_TooMany.V.ini EC_TooMany.V.tI G_E_TooMany (hr.mono (by omega)) EC_TooMany.b pass0 (by rfl) EC_TooMany.V.mgx (pa_cons (pe_glob (v := .int 8) (by rfl) (Classical.choose_spec T.g_MOST_OUTSIDE) ⟨_, rfl⟩) pa_nil)))) pss_nil)
      (pss_one (ps_expr (pe_call G_check_outside (hr.mono (by omega)) (by rfl) T.m_check_outside T.F_check_outside.kp T.b_check_outside .nil (L2N.passes_call tk (fun _ _ _ _ h => h)) (pa_cons (pv 2) (pa_cons (pe_call G_names (hr.mono (by omega)) (by rfl) T.m_names T.F_names.kp T.b_names .nil pass0 (pa_cons (pv 1) pa_nil)) pa_nil))))))))))), ?_⟩
    rw [show L2.start N_check_object [nm, V.ref p, ov, V.bl wide] = [some (nm), some (V.ref p), some (ov), some (V.bl wide), none, none] from rfl]
    try dsimp only [cxOf, Cx.nox]
    tm_at "go"
    refine i_is_name hd fun H1 s1 => ?_
    tm_at "go"
    · rename_i c
      refine iEnumP hs s1 (fun Q q => ⟨.ref p, rfl, q⟩) fun J G wk hG => ?_
      refine Go.for_w wk (fun i σ H' => ∃ y4 y5, σ = [some nm, some (.ref p), some ov, some (.bl wide), y4, y5] ∧ Same H H' ∧ ∀ j o, j < i → os[j]? = some o → o.isNone = false) ⟨_, _, rfl, s1, fun j o hj _ => absurd hj (Nat.not_lt_zero _)⟩ (fun i σ H' _ ⟨_, _, _, sG, _⟩ => hG H' sG) ?_ ?_
      · rintro i x σ G1 G2 hi ⟨y4, y5, rfl, sG, hj⟩ ⟨Tq, v, rfl, hT, sT, eT, hv2⟩
        obtain ⟨o, ho, ov2⟩ := Paired.get2 hp hv2
        have s2 : Same H G2 := sG.trans sT
        obtain ⟨t, ty, ki⟩ := (ov2.same s2).ty T.i_Piece.ins
        tm_at "go"
        refine Go.isi (.own _) ty ki ?_
        tm_at "go"
        · rename_i c2
          refine ⟨_, _, rfl, s2, fun j o' hj' ho' => ?_⟩
          rcases Nat.lt_succ_iff_lt_or_eq.mp hj' with h | rfl
          · exact hj j o' h ho'
          · rw [ho] at ho'
            cases ho'
            cases o with
            | none => cases c2
            | some _ => rfl
        · rename_i c2
          have z : os.findIdx? (fun o => o.isNone) = some i := findIdx_some ho (by cases o with | none => rfl | some _ => cases c2) fun j y hj' hy' => hj j y hj' hy'
          exact mk_errT (fun Q q => ⟨_, rfl, q⟩) (shows_int (by omega) (by omega)) fun d G' e => en.er (e := kPc k.p) (objE2 c z) s2 e
      · rintro σ G1 ⟨y4, y5, rfl, sG, hj⟩
        have none_ : os.findIdx? (fun o => o.isNone) = none := findIdx_none fun j y hj' hy' => hj j y (by omega) hy'
        have hN := ofc_all T.cl_Piece hp none_
        have lN : (os.filterMap id).length = os.length := by rw [← Paired.length hN, lo]
        have hs1 := hs.same sG
        tm_at "go"
        refine lenA hs1 ?_
        tm_at "go"
        rotate_left
        · rename_i c3 c4
          exact mk_errT (fun Q q => q) (shows_int (by decide) (by decide)) fun d G' e => en.er (e := kMn k.m) (objE3 c none_ ⟨by omega, c4⟩) sG e
        all_goals
          have h3 : ¬ (8 < os.length ∧ wide = false) := by
            rintro ⟨x1, x2⟩
            first | omega | (subst x2; contradiction)
          refine ⟨p, xs, os.filterMap id, rfl, hs1, Paired.mapP hN fun _ _ e => e.same sG, by omega, ?_⟩
          cases hdup : dupE k.d (os.filterMap id) with
          | some e =>
            obtain ⟨e1, ys⟩ := e
            intro d H' ea
            exact en.er (e := e1) (objE4 c none_ h3 hdup) sG ea
          | none =>
            intro v0 G2 s2
            have s3 : Same H G2 := sG.trans s2
            have hv2 := hv.same s3
            cases hv2 with
            | no hf =>
              cases ov with
              | non =>
                tm_at "go"
                exact mk_errT (fun Q q => ⟨1, rfl, q⟩) (shows_int (by decide) (by decide)) fun d G' e => en.er (e := kOu k.o) (objE5 c none_ h3 hdup) (s3.trans (by assumption)) e
              | bl x =>
                tm_at "go"
                exact mk_errT (fun Q q => ⟨1, rfl, q⟩) (shows_int (by decide) (by decide)) fun d G' e => en.er (e := kOu k.o) (objE5 c none_ h3 hdup) (s3.trans (by assumption)) e
              | int x =>
                tm_at "go"
                exact mk_errT (fun Q q => ⟨1, rfl, q⟩) (shows_int (by decide) (by decide)) fun d G' e => en.er (e := kOu k.o) (objE5 c none_ h3 hdup) (s3.trans (by assumption)) e
              | str x =>
                tm_at "go"
                exact mk_errT (fun Q q => ⟨1, rfl, q⟩) (shows_int (by decide) (by decide)) fun d G' e => en.er (e := kOu k.o) (objE5 c none_ h3 hdup) (s3.trans (by assumption)) e
              | _ => cases hf.1
            | @seq a ys ds hs2 hp2 hl2 =>
              rcases hs2 with hq | hq
              · tm_at "go"
                all_goals
                  first
                  | (exact mk_errT (fun Q q => q) (shows_int (by decide) (by decide)) fun d G' e => en.er (e := kMn k.m) (objE6 c none_ h3 hdup ⟨by omega, by assumption⟩) (s3.trans (by assumption)) e)
                  | (have h5 : ¬ (8 < ys.length ∧ wide = false) := by
                      rintro ⟨x1, x2⟩
                      first | omega | (subst x2; contradiction)
                     have s4 := s3.trans (show Same G2 _ by assumption)
                     have hA : SeqA K G2 a ys := .inl hq
                     refine ⟨p, xs, os.filterMap id, rfl, hs.same s4, Paired.mapP hN fun _ _ e => e.same s4, by omega, fun G5 q5 s5 n5 e5 => ?_⟩
                     refine ⟨a, q5, b, ys, ds, os.filterMap id, rfl, hA.same ((show Same G2 _ by assumption).trans s5), Paired.mapP hp2 fun _ _ e => e.same ((show Same G2 _ by assumption).trans s5), hl2, e5, by omega, ?_⟩
                     rw [objE7 c none_ h3 hdup h5] at en
                     cases ho : outE k.o (os.filterMap id) ys with
                     | some e =>
                       obtain ⟨e1, ws⟩ := e
                       intro d H' ea
                       exact en.er (e := e1) ho (s4.trans s5) ea
                     | none =>
                       intro v1 G6 s6
                       exact en.ok ho ((s4.trans s5).trans s6))
              · tm_at "go"
                all_goals
                  first
                  | (exact mk_errT (fun Q q => q) (shows_int (by decide) (by decide)) fun d G' e => en.er (e := kMn k.m) (objE6 c none_ h3 hdup ⟨by omega, by assumption⟩) (s3.trans (by assumption)) e)
                  | (have h5 : ¬ (8 < ys.length ∧ wide = false) := by
                      rintro ⟨x1, x2⟩
                      first | omega | (subst x2; contradiction)
                     have s4 := s3.trans (show Same G2 _ by assumption)
                     have hA : SeqA K G2 a ys := .inr hq
                     refine ⟨p, xs, os.filterMap id, rfl, hs.same s4, Paired.mapP hN fun _ _ e => e.same s4, by omega, fun G5 q5 s5 n5 e5 => ?_⟩
                     refine ⟨a, q5, b, ys, ds, os.filterMap id, rfl, hA.same ((show Same G2 _ by assumption).trans s5), Paired.mapP hp2 fun _ _ e => e.same ((show Same G2 _ by assumption).trans s5), hl2, e5, by omega, ?_⟩
                     rw [objE7 c none_ h3 hdup h5] at en
                     cases ho : outE k.o (os.filterMap id) ys with
                     | some e =>
                       obtain ⟨e1, ws⟩ := e
                       intro d H' ea
                       exact en.er (e := e1) ho (s4.trans s5) ea
                     | none =>
                       intro v1 G6 s6
                       exact en.ok ho ((s4.trans s5).trans s6))
    · rename_i c
      refine mk_errT (fun Q q => ⟨_, rfl, q⟩) (let ⟨z, h1, h2⟩ := hsh c; ⟨z, Shows.same s1 h1, h2⟩) fun d G' e => en.er (e := kNm k.n) (objE1 c) s1 e
end

open Lend LamX NdefX SupX DicX
/-! ### Object.__init__ -/
theorem rd_stp {H H' : Hp} {x a C dx : Addr} {fs : List (Str × V)} {u : HO} (e : H x = some (.ins C dx fs)) (s : Stp x H H') (hu : ∀ C dx fs, u ≠ .ins C dx fs) (h : Rd H a u) : Rd H' a u := by
  have ne : ∀ {o : HO}, H a = some o → (∀ C dx fs, o ≠ .ins C dx fs) → a ≠ x := fun h1 h2 z => by
    rw [z, e] at h1
    exact h2 _ _ _ (Option.some.inj h1).symm
  rcases h with h | ⟨o, h⟩
  · exact .inl (s _ _ (ne h hu) h)
  · exact .inr ⟨o, s _ _ (ne h (fun _ _ _ z => by cases z)) h⟩
theorem seqA_stp {K : PySem.W.Frag} {H H' : Hp} {x a C dx : Addr} {fs : List (Str × V)} {xs : List V} (e : H x = some (.ins C dx fs)) (s : Stp x H H') (h : SeqA K H a xs) : SeqA K H' a xs := by
  rcases h with (h | h) | (h | h)
  · exact .inl (.inl (rd_stp e s (fun _ _ _ z => by cases z) h))
  · exact .inl (.inr h)
  · exact .inr (.inl (rd_stp e s (fun _ _ _ z => by cases z) h))
  · exact .inr (.inr h)
theorem objE_none {k : Ko} {nm : V} {os : List (Option Str)} {wide : Bool} (h : objE k nm os none wide = none) : False := by
  unfold objE at h
  split at h
  · cases h
  · split at h
    · cases h
    · split at h
      · cases h
      · split at h <;> cases h
/-- the fields of an object: its name, its lists -/
structure ObF (fs : List (Str × V)) (nm : V) (q1 q2 : Addr) : Prop where
  name : fs.lookup ("name" : Str) = some nm
  ps : fs.lookup ("_pieces" : Str) = some (.ref q1)
  os : fs.lookup ("_foreign" : Str) = some (.ref q2)
  no : ∀ f : Str, f ≠ "name" → f ≠ "_pieces" → f ≠ "_foreign" → fs.lookup f = none
theorem obF0 {nm : V} {q1 q2 : Addr} : ObF (putF "_foreign" (.ref q2) (putF "_pieces" (.ref q1) (putF "name" nm []))) nm q1 q2 :=
  ⟨by rw [lookup_putF, if_neg (by decide), lookup_putF, if_neg (by decide), lookup_putF, if_pos rfl], by rw [lookup_putF, if_neg (by decide), lookup_putF, if_pos rfl], by rw [lookup_putF, if_pos rfl], fun f h1 h2 h3 => by rw [lookup_putF, if_neg h3, lookup_putF, if_neg h2, lookup_putF, if_neg h1]; rfl⟩
theorem obF2 {nm : V} {p1 p2 q1 q2 : Addr} {fs : List (Str × V)} (h : ObF fs nm p1 p2) : ObF (putF "_foreign" (.ref q2) (putF "_pieces" (.ref q1) fs)) nm q1 q2 :=
  ⟨by rw [lookup_putF, if_neg (by decide), lookup_putF, if_neg (by decide)]; exact h.name, by rw [lookup_putF, if_neg (by decide), lookup_putF, if_pos rfl], by rw [lookup_putF, if_pos rfl], fun f h1 h2 h3 => by rw [lookup_putF, if_neg h3, lookup_putF, if_neg h2]; exact h.no f h1 h2 h3⟩
section
variable {P : Program} {w : World} {K : PySem.W.Frag} {mg : Str → Option Value} {base : Heap} {Z : Fs}
/-- what the body is given: self, name, outside, the pieces as a tuple -/
def sp_objI (K : PySem.W.Frag) (C CP : Addr) (k : Ko) : Sp := fun vs H Q E => ∃ (x dx b p : Addr) (nm ov : V) (d : PyData) (xs : List V) (os : List (Option Str)) (lot : Option (List V)), vs = [.ref x, nm, ov, .ref p] ∧ H x = some (.ins C dx []) ∧
  Dt K H b nm d ∧ (nmV nm = false → ∃ c, Shows K H nm c ∧ c ≤ 5000) ∧ H p = some (.tup xs) ∧ Paired (Ofc K H CP) xs os ∧ xs.length ≤ 100 ∧ LotV K H b ov lot ∧
  (∀ e ys, objE k nm os lot false = some (e, ys) → ∀ d H', ErrAt H H' d e ys → E (.ref e.D) (some d) H') ∧
  (∀ ys, objE k nm os lot false = none → lot = some ys → ∀ (H' : Hp) (q1 q2 : Addr) (fs : List (Str × V)), Stp x H H' → q1 ≠ x → q2 ≠ x → H q1 = none → H q2 = none → H' x = some (.ins C dx fs) → fs.length ≤ 3 → ObF fs nm q1 q2 → H' q1 = some (.lst xs) → H' q2 = some (.lst ys) → Q .non H')
theorem objI_body {k : Ko} (T : Txt K w mg Z) (L : Lo P K mg k) {cdv : Value} {A : Around} {outer : List Env} {s : Shared} {H : Hp} {vs : List V} {Q : VK} {E : XK} (hr : Room 7 (A.deeper (envOfC "Object.__init__" (defScope s_Object___init__) s.heap.objs.size Z.a_Object___init__ cdv))) (h : sp_objI K Z.C_Object Z.C_Piece k vs H Q E) :
    ∃ t, PSs (cxOf (L2N.CX P w) P w K mg base N_Object___init__ "Object.__init__" (defScope s_Object___init__) Z.a_Object___init__ cdv A outer s H E) (defBody s_Object___init__) t ∧ t { nx := fun _ H' => Q .non H', rt := Q } (start N_Object___init__ vs) H := by
  have G_check_object := ok_check_object (base := base) T L
  obtain ⟨x, dx, b, p, nm, ov, d, xs, os, lot, rfl, hx, hd, hsh, ht, hp, hl, hv, er, ok⟩ := h
  have tk : L2N.Takes (cxOf (L2N.CX P w) P w K mg base N_Object___init__ "Object.__init__" (defScope s_Object___init__) Z.a_Object___init__ cdv A outer s H E) (fun cls d _ H => E cls d H) := L2N.takes_of (E₁ := fun e' s'' => L2N.CX P w outer H s E e' s'') rfl rfl rfl rfl
  refine ⟨_, (pss_cons (ps_expr (pe_call G_check_object (hr.mono (by omega)) (by rfl) T.m_check_object T.F_check_object.kp T.b_check_object .nil (L2N.passes_call tk (fun _ _ _ _ h => h)) (pa_cons (pv 1) (pa_cons (pv 3) (pa_cons (pv 2) (pa_cons pe_bl pa_nil))))))
      (pss_cons (ps_fld (pv 0) (pv 1) rfl)
      (pss_cons (ps_fld (pv 0) (pe_callTy Go.c_list (by rfl) T.n_list boot_list (pa_cons (pv 3) pa_nil)) rfl)
      (pss_one (ps_fld (pv 0) (pe_callTy Go.c_list (by rfl) T.n_list boot_list (pa_cons (pv 2) pa_nil)) rfl))))), ?_⟩
  rw [show L2.start N_Object___init__ [V.ref x, nm, ov, V.ref p] = [some (V.ref x), some (nm), some (ov), some (V.ref p)] from rfl]
  try dsimp only [cxOf, Cx.nox]
  tm_at "go"
  refine ⟨b, p, nm, ov, d, xs, os, lot, false, rfl, hd, hsh, .inr (SqT.of ht), hp, hl, hv, ?_⟩
  cases ho : objE k nm os lot false with
  | some e =>
    obtain ⟨e1, ys⟩ := e
    exact fun d H' ea => er e1 ys ho d H' ea
  | none =>
    intro v0 G s1
    tm_at "go"
    cases hv with
    | no hf => exact (objE_none ho).elim
    | @seq a ys ds hs2 hp2 hl2 =>
      have e0 := s1 _ _ hx
      have st : ∀ {G : Hp} {o : HO}, Stp x H G → Stp x H (upd G x o) := fun s => s.trans Stp.put
      have st0 : Stp x H G := fun a o _ e => s1 a o e
      have npx : p ≠ x := fun z => by rw [z, hx] at ht; cases ht
      refine ⟨nm, rfl, .ref x, rfl, x, _, dx, [], rfl, e0, T.cl_Object, T.n_Object_name, by show 0 < 1000; decide, ?_⟩
      have st1 := st (o := .ins Z.C_Object dx (putF "name" nm [])) st0
      refine ⟨.ref p, rfl, p, xs, rfl, .inr (SqT.of (st1 _ _ npx ht)), fun q hq => ?_⟩
      have nq : q ≠ x := fun e => by rw [e, upd_same] at hq; cases hq
      refine ⟨.ref x, rfl, x, _, dx, _, rfl, by rw [upd_ne nq.symm]; exact upd_same, T.cl_Object, T.n_Object__pieces, Nat.lt_of_le_of_lt (lenp (n := 0) (Nat.zero_le _)) (by decide), ?_⟩
      have st2 := st (o := .ins Z.C_Object dx (putF "_pieces" (.ref q) (putF "name" nm []))) (st1.trans (Stp.new (o := .lst xs) hq))
      refine ⟨.ref a, rfl, a, ys, rfl, seqA_stp hx st2 hs2, fun q2 hq2 => ?_⟩
      have nq2 : q2 ≠ x := fun e => by rw [e, upd_same] at hq2; cases hq2
      have nqq : q ≠ q2 := fun e => by rw [← e, upd_ne nq, upd_same] at hq2; cases hq2
      refine ⟨.ref x, rfl, x, _, dx, _, rfl, by rw [upd_ne nq2.symm]; exact upd_same, T.cl_Object, T.n_Object__foreign, Nat.lt_of_le_of_lt (lenp (lenp (n := 0) (Nat.zero_le _))) (by decide), ?_⟩
      exact ok ys ho rfl _ q q2 _ ((st2.trans (Stp.new (o := .lst ys) hq2)).trans Stp.put) nq nq2 (Go.freeB st1 nq hq) (Go.freeB st2 nq2 hq2) upd_same (lenp (lenp (lenp (n := 0) (Nat.zero_le _)))) obF0
        (by rw [upd_ne nq, upd_ne nqq, upd_ne nq]; exact upd_same) (by rw [upd_ne nq2]; exact upd_same)
end

open Lend LamX NdefX SupX DicX
theorem cxUpN {P : Program} {w : World} : StX.CXUp (L2N.CX P w) := by
  intro outer s H s2 H2 E e s' un kp ho h
  obtain ⟨a, B, H', cls, d, ea, fl, hok, ub, na, os, ag, he⟩ := h
  have tb : UB (frs outer) H H' s.heap B s'.heap := by
    constructor
    · exact fun b o q n hb => ub.keep b o (kp b o q) (un.free b o q n (by simp)) hb
    · exact fun b o q hb => ub.slot b o (kp b o q) hb
    · exact fun b o q n => ub.free b o (kp b o q) (un.free b o q n (by simp))
    · exact fun b o q hb => ub.there b o (kp b o q) hb
    · exact fun b xs q => ub.tups b xs (un.tups b xs q)
    · exact fun b o xs q => ub.frzs b o xs (un.frzs b o xs q)
    · intro b ps q
      obtain ⟨m1, e1⟩ := un.tbls b ps q
      obtain ⟨m2, e2⟩ := ub.tbls b _ e1
      exact ⟨m1 ++ m2, by rw [e2, Array.append_assoc]⟩
  exact ⟨a, B, H', cls, d, ea, fl, hok, tb, na, os.trans ho, ag, he⟩
/-! ### Object(..): what a call with the keyword and one without it come to -/
section
variable {P : Program} {w : World} {K : PySem.W.Frag} {mg : Str → Option Value} {base : Heap} {Z : Fs}
theorem ok_ObjectW {k : Ko} (T : Txt K w mg Z) (L : Lo P K mg k) : StkX.FnRW P w K mg base (L2N.CX P w) 8 Z.a_Object___init__ "outside" (StkX.Rest 2 (sp_objI K Z.C_Object Z.C_Piece k)) := by
  obtain ⟨oc, od, dV, kV, doc, pm, an, cdv, ct, osl, e, lk, hcd, hd, hk⟩ := T.F_Object___init__.ex
  rw [e] at lk
  rcases hd with ⟨_, rfl⟩ | ⟨h, _⟩
  · rcases hk with h | ⟨D, rfl, hk⟩
    · cases h
    · exact StkX.fn_restW (ps := ["self", "name"]) (kn := "outside") (pv := "pieces") lk hcd sc_Object___init__ cxUpN (fun us rest v hl => by
        match us, hl with
        | [_, _], _ => cases rest <;> kernel_rfl) fun A outer s H vs Q E hr h => objI_body T L hr h
  · exact absurd rfl h
theorem ok_ObjectD {k : Ko} (T : Txt K w mg Z) (L : Lo P K mg k) : L2.FnR P w K mg base (L2N.CX P w) 8 Z.a_Object___init__ (fun vs => StkX.Rest 2 (sp_objI K Z.C_Object Z.C_Piece k) vs (.ref Z.e_Object___init___outside)) := by
  obtain ⟨oc, od, dV, kV, doc, pm, an, cdv, ct, osl, e, lk, hcd, hd, hk⟩ := T.F_Object___init__.ex
  rw [e] at lk
  rcases hd with ⟨_, rfl⟩ | ⟨h, _⟩
  · rcases hk with h | ⟨D, rfl, hk⟩
    · cases h
    · obtain ⟨u, hD, rz⟩ := hk _ (List.mem_cons_self ..)
      exact StkX.fn_restD (ps := ["self", "name"]) (kn := "outside") (pv := "pieces") lk hcd sc_Object___init__ cxUpN hD rz (fun us rest hl => by
        match us, hl with
        | [_, _], _ =>
          cases rest with
          | nil => exact ⟨_, _, _, _, _, _, rfl, rfl, rfl⟩
          | cons r rs => exact ⟨_, _, _, _, _, _, rfl, rfl, rfl⟩) fun A outer s H vs Q E hr h => objI_body T L hr h
  · exact absurd rfl h
end

open Lend LamX NdefX SupX DicX
/-! ### Archive.__init__ -/
def kMb (D : Addr) : EKind := ⟨D, "InvalidMember", ["at"]⟩
structure La (P : Program) (K : PySem.W.Frag) (mg : Str → Option Value) (k : Ko) (kb : Addr) : Prop where
  L : Lo P K mg k
  b : ∃ f fd, EC K mg "InvalidMember" "InvalidMember.__init__" s_E_InvalidMember (kMb kb) f fd
theorem ok_E_InvalidMember {P : Program} {w : World} {K : PySem.W.Frag} {mg : Str → Option Value} {base : Heap} {D f : Addr} {fd : FuncData} (PS : ProgS P FL) (EC_ : EC K mg "InvalidMember" "InvalidMember.__init__" s_E_InvalidMember ⟨D, "InvalidMember", ["at"]⟩ f fd) :
    FnOk P w K mg base C8.CX0 1 f fd ["self", "at"] (sp_err1 K D "at" "InvalidMember") :=
  ok_err1 (te := fun K σ H Q => tJs [tC (.str "value "), tFmtX K (tVar 1), tC (.str " is not an object")] Str.empty σ H fun out H1 => Q (.str out) H1) PS EC_ (nscope_by (by decide +kernel)) (by decide +kernel) rfl (fun _ => rfl) (fun _ => rfl) (fun _ => rfl) (.inl (by decide +kernel)) (.inl (by decide +kernel)) (by decide) (by decide)
    (fun X hr hn hv => pe_joined (.cons pe_str (.cons (pe_fmtX hr (pe_var (i := 1) hn hv)) (.cons pe_str .nil)))) (fun σ H Q v c hv hs hc k => txt_mid (by decide +kernel) (by decide +kernel) hv hs hc k)

def archE (k : Ko) (kb : Addr) (nm : V) (os : List (Option Str)) : Option (EKind × List V) :=
  if nmV nm = false then some (kNm k.n, [nm]) else match os.findIdx? (fun o => o.isNone) with
  | some i => some (kMb kb, [.int ((i : Nat) : Int)])
  | none => if 4 < os.length then some (kMn k.m, [.int 4]) else dupE k.d (os.filterMap id)
section
variable {k : Ko} {kb : Addr} {nm : V} {os : List (Option Str)} {i : Nat}
theorem archE1 (h : nmV nm = false) : archE k kb nm os = some (kNm k.n, [nm]) := by simp [archE, h]
theorem archE2 (h : nmV nm = true) (h2 : os.findIdx? (fun o => o.isNone) = some i) : archE k kb nm os = some (kMb kb, [.int ((i : Nat) : Int)]) := by simp [archE, h, h2]
theorem archE3 (h : nmV nm = true) (h2 : os.findIdx? (fun o => o.isNone) = none) (h3 : 4 < os.length) : archE k kb nm os = some (kMn k.m, [.int 4]) := by
  unfold archE
  rw [if_neg (by rw [h]; decide), h2]
  exact if_pos h3
theorem archE4 (h : nmV nm = true) (h2 : os.findIdx? (fun o => o.isNone) = none) (h3 : ¬ 4 < os.length) : archE k kb nm os = dupE k.d (os.filterMap id) := by
  unfold archE
  rw [if_neg (by rw [h]; decide), h2]
  exact if_neg h3
end
section
variable {P : Program} {w : World} {K : PySem.W.Frag} {mg : Str → Option Value} {base : Heap} {Z : Fs}
def sp_archI (K : PySem.W.Frag) (C CO : Addr) (k : Ko) (kb : Addr) : Sp := fun vs H Q E => ∃ (x dx b p : Addr) (nm : V) (d : PyData) (xs : List V) (os : List (Option Str)), vs = [.ref x, nm, .ref p] ∧ H x = some (.ins C dx []) ∧
  Dt K H b nm d ∧ (nmV nm = false → ∃ c, Shows K H nm c ∧ c ≤ 5000) ∧ H p = some (.tup xs) ∧ Paired (Ofc K H CO) xs os ∧ xs.length ≤ 100 ∧
  (∀ e ys, archE k kb nm os = some (e, ys) → ∀ d H', ErrAt H H' d e ys → E (.ref e.D) (some d) H') ∧
  (archE k kb nm os = none → ∀ (H' : Hp) (q1 : Addr) (fs : List (Str × V)), Stp x H H' → H' x = some (.ins C dx fs) → fs.lookup ("name" : Str) = some nm → fs.lookup ("_members" : Str) = some (.ref q1) → H' q1 = some (.lst xs) → Q .non H')
theorem archI_body {k : Ko} {kb : Addr} (T : Txt K w mg Z) (L : La P K mg k kb) {cdv : Value} {A : Around} {outer : List Env} {s : Shared} {H : Hp} {vs : List V} {Q : VK} {E : XK} (hr : Room 7 (A.deeper (envOfC "Archive.__init__" (defScope s_Archive___init__) s.heap.objs.size Z.a_Archive___init__ cdv))) (h : sp_archI K Z.C_Archive Z.C_Object k kb vs H Q E) :
    ∃ t, PSs (cxOf (L2N.CX P w) P w K mg base N_Archive___init__ "Archive.__init__" (defScope s_Archive___init__) Z.a_Archive___init__ cdv A outer s H E) (defBody s_Archive___init__) t ∧ t { nx := fun _ H' => Q .non H', rt := Q } (start N_Archive___init__ vs) H := by
  obtain ⟨f4, fd4, EC_InvalidName⟩ := L.L.n
  obtain ⟨f5, fd5, EC_InvalidMember⟩ := L.b
  obtain ⟨f6, fd6, EC_TooMany⟩ := L.L.m
  have G_E_InvalidName := ok_E_InvalidName (P := P) (w := w) (base := base) L.L.L.PS EC_InvalidName
  have G_E_InvalidMember := ok_E_InvalidMember (P := P) (w := w) (base := base) L.L.L.PS EC_InvalidMember
  have G_E_TooMany := ok_E_TooMany (P := P) (w := w) (base := base) L.L.L.PS EC_TooMany
  have G_is_name := ok_is_name (P := P) (base := base) T
  have G_check_names := ok_check_names (base := base) T L.L.L
  obtain ⟨x, dx, b, p, nm, d, xs, os, rfl, hx, hd, hsh, ht, hp, hl, er, ok⟩ := h
  have lo : xs.length = os.length := Paired.length hp
  have hs : SeqA K H p xs := .inr (SqT.of ht)
  have tk : L2N.Takes (cxOf (L2N.CX P w) P w K mg base N_Archive___init__ "Archive.__init__" (defScope s_Archive___init__) Z.a_Archive___init__ cdv A outer s H E) (fun cls d _ H => E cls d H) := L2N.takes_of (E₁ := fun e' s'' => L2N.CX P w outer H s E e' s'') rfl rfl rfl rfl
  refine ⟨_, (pss_cons (ps_if (pt_not (pt_val (pe_call G_is_name (hr.mono (by omega)) (by rfl) T.m_is_name T.F_is_name.kp T.b_is_name .nil pass0 (pa_cons (pv 1) pa_nil)))) (pss_one (L2N.ps_raise rfl tk (LendN.pmkN_own EC_InvalidName.V.oex EC_InvalidName.V.ini EC_InvalidName.V.tI G_E_InvalidName (hr.mono (by omega)) EC_InvalidName.b pass0 (by rfl) EC_InvalidName.V.mgx (pa_cons (pv 1) pa_nil)))) pss_nil)
      (pss_cons (ps_for (passes_of rfl) rfl (pi_enumA (by rfl) T.n_enumerate (pa_cons (pv 2) pa_nil)) (pg_tup (by rfl) (pgs_cons (pg_name (i := 3) sc_Archive___init__.nd rfl (Or.inl rfl)) (pgs_cons (pg_name (i := 4) sc_Archive___init__.nd rfl (Or.inl rfl)) pgs_nil))) (pss_one (ps_if (pt_not (pt_val (pe_callB (call_isi : CallR _ _ (rIsi K)) (by rfl) T.n_isinstance boot_isinstance (pa_cons (pv 4) (pa_cons (pe_glob (v := .ref Z.C_Object) (by rfl) T.m_Object rfl) pa_nil))))) (pss_one (L2N.ps_raise rfl tk (LendN.pmkN_own EC_InvalidMember.V.oex EC_InvalidMember.V.ini EC_InvalidMember.V.tI G_E_InvalidMember (hr.mono (by omega)) EC_InvalidMember.b pass0 (by rfl) EC_InvalidMember.V.mgx (pa_cons (pv 3) pa_nil)))) pss_nil)))
      (pss_cons (ps_if (pt_cmpR op_gt (pe_callB (Go.c_len : CallR _ _ (Go.RLen K)) (by rfl) T.n_len boot_len (pa_cons (pv 2) pa_nil)) (pe_glob (v := .int 4) (by rfl) (Classical.choose_spec T.g_MOST_MEMBERS) ⟨_, rfl⟩) (nomark _)) (pss_one (L2N.ps_raise rfl tk (LendN.pmkN_own EC_TooMany.V.oex EC_TooMany.V.ini EC_TooMany.V.tI G_E_TooMany (hr.mono (by omega)) EC_TooMany.b pass0 (by rfl) EC_TooMany.V.mgx (pa_cons (pe_glob (v := .int 4) (by rfl) (Classical.choose_spec T.g_MOST_MEMBERS) ⟨_, rfl⟩) pa_nil)))) pss_nil)
      (pss_cons (ps_expr (pe_call G_check_names (hr.mono (by omega)) (by rfl) T.m_check_names T.F_check_names.kp T.b_check_names .nil (L2N.passes_call tk (fun _ _ _ _ h => h)) (pa_cons (pv 2) pa_nil)))
      (pss_cons (ps_fld (pv 0) (pv 1) rfl)
      (pss_one (ps_fld (pv 0) (pe_callTy Go.c_list (by rfl) T.n_list boot_list (pa_cons (pv 2) pa_nil)) rfl))))))), ?_⟩
  rw [show L2.start N_Archive___init__ [V.ref x, nm, V.ref p] = [some (V.ref x), some (nm), some (V.ref p), none, none] from rfl]
  try dsimp only [cxOf, Cx.nox]
  tm_at "go"
  refine i_is_name hd fun H1 s1 => ?_
  tm_at "go"
  · rename_i c
    refine iEnumP hs s1 (fun Q q => ⟨.ref p, rfl, q⟩) fun J G wk hG => ?_
    refine Go.for_w wk (fun i σ H' => ∃ y4 y5, σ = [some (.ref x), some nm, some (.ref p), y4, y5] ∧ Same H H' ∧ ∀ j o, j < i → os[j]? = some o → o.isNone = false) ⟨_, _, rfl, s1, fun j o hj _ => absurd hj (Nat.not_lt_zero _)⟩ (fun i σ H' _ ⟨_, _, _, sG, _⟩ => hG H' sG) ?_ ?_
    · rintro i v0 σ G1 G2 hi ⟨y4, y5, rfl, sG, hj⟩ ⟨Tq, v, rfl, hT, sT, eT, hv2⟩
      obtain ⟨o, ho, ov2⟩ := Paired.get2 hp hv2
      have s2 : Same H G2 := sG.trans sT
      obtain ⟨t, ty, ki⟩ := (ov2.same s2).ty T.i_Object.ins
      tm_at "go"
      refine Go.isi (.own _) ty ki ?_
      tm_at "go"
      · rename_i c2
        refine ⟨_, _, rfl, s2, fun j o' hj' ho' => ?_⟩
        rcases Nat.lt_succ_iff_lt_or_eq.mp hj' with h | rfl
        · exact hj j o' h ho'
        · rw [ho] at ho'
          cases ho'
          cases o with
          | none => cases c2
          | some _ => rfl
      · rename_i c2
        have z : os.findIdx? (fun o => o.isNone) = some i := findIdx_some ho (by cases o with | none => rfl | some _ => cases c2) fun j y hj' hy' => hj j y hj' hy'
        exact mk_errT (fun Q q => ⟨_, rfl, q⟩) (shows_int (by omega) (by omega)) fun d G' e => er _ _ (archE2 c z) d G' ⟨Go.freeS s2 e.new, s2.trans e.same, e.at_⟩
    · rintro σ G1 ⟨y4, y5, rfl, sG, hj⟩
      have none_ : os.findIdx? (fun o => o.isNone) = none := findIdx_none fun j y hj' hy' => hj j y (by omega) hy'
      have hN := ofc_all T.cl_Object hp none_
      have lN : (os.filterMap id).length = os.length := by rw [← Paired.length hN, lo]
      have hs1 := hs.same sG
      tm_at "go"
      · rename_i c3
        exact mk_errT (fun Q q => q) (shows_int (by decide) (by decide)) fun d G' e => er _ _ (archE3 c none_ (by omega)) d G' ⟨Go.freeS sG e.new, sG.trans e.same, e.at_⟩
      · rename_i c3
        refine ⟨p, xs, os.filterMap id, rfl, hs1, Paired.mapP hN fun _ _ e => e.same sG, by omega, ?_⟩
        have hA := archE4 (k := k) (kb := kb) c none_ (by omega : ¬ 4 < os.length)
        cases hdup : dupE k.d (os.filterMap id) with
        | some e =>
          obtain ⟨e1, ys⟩ := e
          intro d H' ea
          exact er e1 ys (hA.trans hdup) d H' ⟨Go.freeS sG ea.new, sG.trans ea.same, ea.at_⟩
        | none =>
          intro v1 G2 s2
          have s3 : Same H G2 := sG.trans s2
          tm_at "go"
          have e0 := s3 _ _ hx
          have st : ∀ {G : Hp} {o : HO}, Stp x H G → Stp x H (upd G x o) := fun s => s.trans Stp.put
          have st0 : Stp x H G2 := fun a o _ e => s3 a o e
          have npx : p ≠ x := fun z => by rw [z, hx] at ht; cases ht
          refine ⟨nm, rfl, .ref x, rfl, x, _, dx, [], rfl, e0, T.cl_Archive, T.n_Archive_name, by show 0 < 1000; decide, ?_⟩
          have st1 := st (o := .ins Z.C_Archive dx (putF "name" nm [])) st0
          refine ⟨.ref p, rfl, p, xs, rfl, .inr (SqT.of (st1 _ _ npx ht)), fun q hq => ?_⟩
          have nq : q ≠ x := fun e => by rw [e, upd_same] at hq; cases hq
          refine ⟨.ref x, rfl, x, _, dx, _, rfl, by rw [upd_ne nq.symm]; exact upd_same, T.cl_Archive, T.n_Archive__members, Nat.lt_of_le_of_lt (lenp (n := 0) (Nat.zero_le _)) (by decide), ?_⟩
          exact ok (hA.trans hdup) _ q _ ((st1.trans (Stp.new (o := .lst xs) hq)).trans Stp.put) upd_same (by rw [lookup_putF, if_neg (by decide), lookup_putF, if_pos rfl]) (by rw [lookup_putF, if_pos rfl]) (by rw [upd_ne nq]; exact upd_same)
  · rename_i c
    obtain ⟨z, h1, h2⟩ := hsh c
    exact mk_errT (fun Q q => ⟨_, rfl, q⟩) ⟨z, Shows.same s1 h1, h2⟩ fun d G' e => er _ _ (archE1 c) d G' ⟨Go.freeS s1 e.new, s1.trans e.same, e.at_⟩
end

open Lend LamX NdefX SupX DicX
section
variable {P : Program} {w : World} {K : PySem.W.Frag} {mg : Str → Option Value} {base : Heap} {Z : Fs}
/-- Archive(..) -/
theorem ok_ArchiveS {k : Ko} {kb : Addr} (T : Txt K w mg Z) (L : La P K mg k kb) : L2.FnR P w K mg base (L2N.CX P w) 8 Z.a_Archive___init__ (fun vs H Q E => ∃ ws rest, vs = ws ++ rest ∧ ws.length = 2 ∧ rest.length ≤ sizeLine ∧ ∀ p, H p = none → sp_archI K Z.C_Archive Z.C_Object k kb (ws ++ [V.ref p]) (upd H p (.tup rest)) Q E) := by
  obtain ⟨oc, od, kV, doc, pm, an, cdv, ct, osl, e, lk, hcd⟩ := T.F_Archive___init__.ex
  rw [e] at lk
  exact StX.fn_star (ps := ["self", "name"]) (pv := "members") lk hcd sc_Archive___init__ cxUpN (fun us rest hl => by
    match us, hl with
    | [_, _], _ => cases rest <;> kernel_rfl) fun A outer s H vs Q E hr h => archI_body T L hr h
end

open Lend LamX NdefX SupX DicX
/-! ### objects are made -/
def MkP (sp : Sp) (C : Addr) (E : XK) (vs : List V) (H : Hp) (Q : VK) : Prop := ∀ x dx, H x = none → H dx = none → dx ≠ x → sp (.ref x :: vs) (upd (upd H dx (.own x)) x (.ins C dx [])) (fun v H2 => v = .non ∧ Q (.ref x) H2) E
def One (zs : List V) (k : V → Prop) : Prop := ∃ z, zs = [z] ∧ k z
theorem one1 {z : V} {k : V → Prop} (h : k z) : One [z] k := ⟨z, rfl, h⟩
theorem mkR {C : Addr} {sp : Sp} {E : XK} {t : TA} {σ : L2.St} {H : Hp} {Q : VK} (q : t σ H fun vs H1 => MkP sp C E vs H1 Q) : StX.tMakeR C sp E t σ H Q := q
theorem mkRW {C : Addr} {sp : List V → V → Hp → VK → XK → Prop} {E : XK} {t tk : TA} {σ : L2.St} {H : Hp} {Q : VK} (q : t σ H fun vs H1 => tk σ H1 fun zs H2 => One zs fun z => MkP (fun ws => sp ws z) C E vs H2 Q) : StkX.tMakeRW C sp E t tk σ H Q := q
theorem new2 {H : Hp} {x dx C : Addr} (hx : H x = none) (hd : H dx = none) : Same H (upd (upd H dx (.own x)) x (.ins C dx [])) := fun u o e => by
  rw [upd_ne (ne_of_none e hx), upd_ne (ne_of_none e hd)]
  exact e
section
variable {P : Program} {w : World} {K : PySem.W.Frag} {mg : Str → Option Value} {base : Heap} {Z : Fs}
theorem i_object {k : Ko} {C CP b : Addr} {H : Hp} {Q : VK} {E : XK} {nm ov : V} {d : PyData} {xs : List V} {os : List (Option Str)} {lot : Option (List V)}
    (hd : Dt K H b nm d) (hsh : nmV nm = false → ∃ c, Shows K H nm c ∧ c ≤ 5000) (hp : Paired (Ofc K H CP) xs os) (hl : xs.length ≤ 100) (hv : LotV K H b ov lot)
    (er : ∀ e ys, objE k nm os lot false = some (e, ys) → ∀ d H', ErrAt H H' d e ys → E (.ref e.D) (some d) H')
    (ok : ∀ ys, objE k nm os lot false = none → lot = some ys → ∀ (H' : Hp) (x dx q1 q2 : Addr) (fs : List (Str × V)), Same H H' → H x = none → H q1 = none → H q2 = none → H' x = some (.ins C dx fs) → fs.length ≤ 3 → ObF fs nm q1 q2 → H' q1 = some (.lst xs) → H' q2 = some (.lst ys) → Q (.ref x) H') :
    MkP (fun ws => StkX.Rest 2 (sp_objI K C CP k) ws ov) C E (nm :: xs) H Q := by
  intro x dx hx hdx hne
  refine ⟨[.ref x, nm], xs, rfl, rfl, Go.le_line (by omega), fun p hp0 => ?_⟩
  have s1 : Same H (upd (upd H dx (.own x)) x (.ins C dx [])) := new2 hx hdx
  have s2 : Same H (upd (upd (upd H dx (.own x)) x (.ins C dx [])) p (.tup xs)) := s1.trans (Go.Sn hp0)
  have npx : x ≠ p := fun z => by rw [← z, upd_same] at hp0; cases hp0
  exact ⟨x, dx, b, p, nm, ov, d, xs, os, lot, rfl, by rw [upd_ne npx]; exact upd_same, hd.same s2, fun c => let ⟨z, h1, h2⟩ := hsh c; ⟨z, Shows.same s2 h1, h2⟩, upd_same, Paired.mapP hp fun _ _ e => e.same s2, hl, hv.same s2,
    fun e ys h d H' ea => er e ys h d H' ⟨Go.freeS s2 ea.new, s2.trans ea.same, ea.at_⟩,
    fun ys h1 h2 H' q1 q2 fs st z1 z2 f1 f2 e1 e0 e2 e5 e6 => ⟨rfl, ok ys h1 h2 H' x dx q1 q2 fs (fun u o e => st u o (ne_of_none e hx) (s2 u o e)) hx (Go.freeS s2 f1) (Go.freeS s2 f2) e1 e0 e2 e5 e6⟩⟩
theorem i_archive {k : Ko} {C CO b kb : Addr} {H : Hp} {Q : VK} {E : XK} {nm : V} {d : PyData} {xs : List V} {os : List (Option Str)}
    (hd : Dt K H b nm d) (hsh : nmV nm = false → ∃ c, Shows K H nm c ∧ c ≤ 5000) (hp : Paired (Ofc K H CO) xs os) (hl : xs.length ≤ 100)
    (er : ∀ e ys, archE k kb nm os = some (e, ys) → ∀ d H', ErrAt H H' d e ys → E (.ref e.D) (some d) H')
    (ok : archE k kb nm os = none → ∀ (H' : Hp) (x dx q1 : Addr) (fs : List (Str × V)), Same H H' → H x = none → H' x = some (.ins C dx fs) → fs.lookup ("name" : Str) = some nm → fs.lookup ("_members" : Str) = some (.ref q1) → H' q1 = some (.lst xs) → Q (.ref x) H') :
    MkP (fun vs H Q E => ∃ ws rest, vs = ws ++ rest ∧ ws.length = 2 ∧ rest.length ≤ sizeLine ∧ ∀ p, H p = none → sp_archI K C CO k kb (ws ++ [V.ref p]) (upd H p (.tup rest)) Q E) C E (nm :: xs) H Q := by
  intro x dx hx hdx hne
  refine ⟨[.ref x, nm], xs, rfl, rfl, Go.le_line (by omega), fun p hp0 => ?_⟩
  have s1 : Same H (upd (upd H dx (.own x)) x (.ins C dx [])) := new2 hx hdx
  have s2 : Same H (upd (upd (upd H dx (.own x)) x (.ins C dx [])) p (.tup xs)) := s1.trans (Go.Sn hp0)
  have npx : x ≠ p := fun z => by rw [← z, upd_same] at hp0; cases hp0
  exact ⟨x, dx, b, p, nm, d, xs, os, rfl, by rw [upd_ne npx]; exact upd_same, hd.same s2, fun c => let ⟨z, h1, h2⟩ := hsh c; ⟨z, Shows.same s2 h1, h2⟩, upd_same, Paired.mapP hp fun _ _ e => e.same s2, hl,
    fun e ys h d H' ea => er e ys h d H' ⟨Go.freeS s2 ea.new, s2.trans ea.same, ea.at_⟩,
    fun h1 H' q1 fs st e1 e2 e3 e5 => ⟨rfl, ok h1 H' x dx q1 fs (fun u o e => st u o (ne_of_none e hx) (s2 u o e)) hx e1 e2 e3 e5⟩⟩
end
local macro_rules | `(tactic| tm_at "sp") => `(tactic| first
  | with_reducible refine mkR ?_
  | with_reducible refine mkRW ?_
  | with_reducible refine one1 ?_
  | fail)

open Lend LamX NdefX SupX DicX
/-! ### wide_object -/
theorem objE_name {k : Ko} {nm : V} {os : List (Option Str)} {lot : Option (List V)} {wide : Bool} (h : objE k nm os lot wide = none) : nmV nm = true := by
  cases c : nmV nm with
  | true => rfl
  | false => rw [objE1 c] at h; cases h
theorem objE_nil {k : Ko} {nm : V} (h : nmV nm = true) : objE k nm [] (some []) false = none := by
  rw [objE7 h rfl (by simp) rfl (by simp)]
  rfl
section
variable {P : Program} {w : World} {K : PySem.W.Frag} {mg : Str → Option Value} {base : Heap} {Z : Fs}
def sp_wide (K : PySem.W.Frag) (C CP : Addr) (k : Ko) : Sp := fun vs H Q E => ∃ (b p : Addr) (nm ov : V) (d : PyData) (xs : List V) (os : List (Option Str)) (lot : Option (List V)), vs = [nm, .ref p, ov] ∧
  Dt K H b nm d ∧ (nmV nm = false → ∃ c, Shows K H nm c ∧ c ≤ 5000) ∧ SeqA K H p xs ∧ Paired (Ofc K H CP) xs os ∧ xs.length ≤ 100 ∧ LotV K H b ov lot ∧
  (∀ e ys, objE k nm os lot true = some (e, ys) → ∀ d H', ErrAt H H' d e ys → E (.ref e.D) (some d) H') ∧
  (∀ ys, objE k nm os lot true = none → lot = some ys → ∀ (H' : Hp) (x dx q1 q2 : Addr) (fs : List (Str × V)), Same H H' → H x = none → H q1 = none → H q2 = none → H' x = some (.ins C dx fs) → ObF fs nm q1 q2 → H' q1 = some (.lst xs) → H' q2 = some (.lst ys) → Q (.ref x) H')
theorem ok_wide_object {k : Ko} (T : Txt K w mg Z) (L : Lo P K mg k) : FnOk P w K mg base (L2N.CX P w) 11 Z.a_wide_object Z.d_wide_object ["name", "pieces", "outside"] (sp_wide K Z.C_Object Z.C_Piece k) := by
  have G_check_object := ok_check_object (base := base) T L
  have G_Object___init__ := ok_ObjectD (base := base) T L
  refine LendN.okN T.F_wide_object sc_wide_object (fun vs H Q E h => ?_) (fun cdv A outer s H vs Q E hr h => ?_)
  · obtain ⟨b, p, nm, ov, d, xs, os, lot, rfl, _⟩ := h
    rfl
  · obtain ⟨b, p, nm, ov, d, xs, os, lot, rfl, hd, hsh, hs, hp, hl, hv, er, ok⟩ := h
    have tk : L2N.Takes (cxOf (L2N.CX P w) P w K mg base N_wide_object "wide_object" (defScope s_wide_object) Z.a_wide_object cdv A outer s H E) (fun cls d _ H => E cls d H) := L2N.takes_of (E₁ := fun e' s'' => L2N.CX P w outer H s E e' s'') rfl rfl rfl rfl
    refine ⟨_, (pss_cons (ps_expr (pe_call G_check_object (hr.mono (by omega)) (by rfl) T.m_check_object T.F_check_object.kp T.b_check_object .nil (L2N.passes_call tk (fun _ _ _ _ h => h)) (pa_cons (pv 0) (pa_cons (pv 1) (pa_cons (pv 2) (pa_cons pe_bl pa_nil))))))
      (pss_cons (ps_set (i := 3) sc_wide_object.nd rfl (Or.inl rfl) (StX.pe_makeR T.mk_Object G_Object___init__ (hr.mono (by omega)) (by rfl) T.m_Object (L2N.passes_call tk (fun _ _ _ _ h => h)) (pa_cons (pv 0) pa_nil)))
      (pss_cons (ps_fld (pv 3) (pe_callTy Go.c_list (by rfl) T.n_list boot_list (pa_cons (pv 1) pa_nil)) rfl)
      (pss_cons (ps_fld (pv 3) (pe_callTy Go.c_list (by rfl) T.n_list boot_list (pa_cons (pv 2) pa_nil)) rfl)
      (pss_one (ps_ret (pv 3))))))), ?_⟩
    rw [show L2.start N_wide_object [nm, V.ref p, ov] = [some (nm), some (V.ref p), some (ov), none] from rfl]
    try dsimp only [cxOf, Cx.nox]
    tm_at "go"
    refine ⟨b, p, nm, ov, d, xs, os, lot, true, rfl, hd, hsh, hs, hp, hl, hv, ?_⟩
    cases ho : objE k nm os lot true with
    | some e =>
      obtain ⟨e1, ys⟩ := e
      exact fun d H' ea => er e1 ys ho d H' ea
    | none =>
      intro v0 G s1
      have nk := objE_name ho
      tm_at "go"
      refine i_object (b := b) (os := []) (lot := some []) (hd.same s1) (fun c => by rw [nk] at c; cases c) .nil (Nat.zero_le _) (.seq (.inr (T.v_e_Object___init___outside _)) .nil (Nat.zero_le _)) (fun e ys h => by rw [objE_nil nk] at h; cases h) fun zs _ _ H2 x dx q1 q2 fs s2 nx _ _ ex lf of _ _ => ?_
      tm_at "go"
      cases hv with
      | no hf => exact (objE_none ho).elim
      | @seq a ys ds hs2 hp2 hl2 =>
        have S2 : Same H H2 := s1.trans s2
        have hx0 : H x = none := Go.freeS s1 nx
        have st : ∀ {G : Hp} {o : HO}, Stp x H2 G → Stp x H2 (upd G x o) := fun s => s.trans Stp.put
        have st0 : Stp x H2 H2 := fun a o _ e => e
        refine ⟨.ref p, rfl, p, xs, rfl, hs.same S2, fun q hq => ?_⟩
        have nq : q ≠ x := fun e => by rw [e, ex] at hq; cases hq
        refine ⟨.ref x, rfl, x, _, dx, _, rfl, by rw [upd_ne nq.symm]; exact ex, T.cl_Object, T.n_Object__pieces, Nat.lt_of_le_of_lt lf (by decide), ?_⟩
        have st2 := st (o := .ins Z.C_Object dx (putF "_pieces" (.ref q) fs)) (st0.trans (Stp.new (o := .lst xs) hq))
        refine ⟨.ref a, rfl, a, ys, rfl, seqA_stp ex st2 (hs2.same S2), fun q5 hq5 => ?_⟩
        have nq5 : q5 ≠ x := fun e => by rw [e, upd_same] at hq5; cases hq5
        have nqq : q ≠ q5 := fun e => by rw [← e, upd_ne nq, upd_same] at hq5; cases hq5
        refine ⟨.ref x, rfl, x, _, dx, _, rfl, by rw [upd_ne nq5.symm]; exact upd_same, T.cl_Object, T.n_Object__foreign, Nat.lt_of_le_of_lt (lenp lf) (by decide), ?_⟩
        have st5 := (st2.trans (Stp.new (o := .lst ys) hq5)).trans (Stp.put (o := .ins Z.C_Object dx (putF "_foreign" (.ref q5) (putF "_pieces" (.ref q) fs))))
        refine ⟨.ref x, rfl, ?_⟩
        have hq2 : H2 q = none := hq
        have hq52 : H2 q5 = none := Go.freeB st2 nq5 hq5
        exact ok ys ho rfl _ x dx q q5 _ (fun u o e => st5 u o (ne_of_none e hx0) (S2 u o e)) hx0 (Go.freeS S2 hq2) (Go.freeS S2 hq52) upd_same (obF2 of)
          (by rw [upd_ne nq, upd_ne nqq, upd_ne nq]; exact upd_same) (by rw [upd_ne nq5]; exact upd_same)
end

open Lend LamX NdefX SupX DicX
/-! ### y in an own instance; == of lists of the same objects -/
/-- the same object, or equal flat values -/
def DIds : Eqv := fun x y H => (∃ a, x = .ref a ∧ y = .ref a) ∨ DFlat x y H
theorem mon_ids : Mon DIds := fun _ _ _ _ e d => d.imp id (fun d => mon_flat _ _ _ _ e d)
section
variable {X : Cx} {CX : CXT} {n : Nat} {f C : Addr} {fd : FuncData} {ps : List Str} {sp : Sp} {E : XK}
theorem eqG_ids : EqG X 0 DIds := by
  intro A pins s σ H x y u v sb I rx ry d
  rcases d with ⟨a, rfl, rfl⟩ | d
  · cases rx
    cases ry
    exact SeqAt.EqAt.same (A := A) (s := s) (.ref a) X.prog X.w X.xe _ ⟨rfl, H, I, Ext.rfl'⟩
  · exact eqG_flat A pins s σ H x y u v sb I rx ry d
theorem rcG_ids : RcG X 1 (DList DIds) := rcG_list mon_ids eqG_ids
theorem op_inO (F : FnOk X.prog X.w X.K X.mg X.base CX n f fd ps sp) (hr : Room n X.A) (hs : Spc X.K C "__contains__" f) (hb : Binds X.K fd ps []) (hx : Passes CX X E) :
    OpR X (compareOp .In) (fun x y H Q => ∃ a dx fs, y = .ref a ∧ H a = some (.ins C dx fs) ∧ sp [.ref a, x] H (fun v H' => ∃ k : Bool, v = .bl k ∧ Q (.bl k) H') E) := by
  intro pins s σ H x y u v Q I rx ry h
  obtain ⟨a, dx, fs, rfl, ea, q⟩ := h
  cases ry
  obtain ⟨mA, J, _⟩ := ins_get I.hok ea
  obtain ⟨od, J, _⟩ := J.look
  obtain ⟨m, hF⟩ := I.fr
  show wpAny (model X.prog X.w) X.A (compareOp .In u (.ref a)) (EP X pins σ Q) X.xe s
  refine PySem.W.in_K hF I.ok.mod.kin J hs.1 hs.2 (wpAny_mono (run_at F hb hx (⟨hr, rfl⟩ : Sub X n X.A) I (show Vals [V.ref a, x] [Value.ref a, u] from .cons rfl (.cons rx .nil)) q) (fun w s' z => ?_) fun _ _ x => x)
  obtain ⟨v', H', I', rv, k, rfl, q'⟩ := z
  cases rv
  exact wpAny_truthy_bool ⟨.bl k, H', I', rfl, q'⟩
end
/-! ### what an object tells -/
structure Ob (H : Hp) (C x q1 q2 : Addr) (nm : V) (xs ys : List V) : Prop where
  ex : ∃ dx fs, H x = some (.ins C dx fs) ∧ ObF fs nm q1 q2
  l1 : H q1 = some (.lst xs)
  l2 : H q2 = some (.lst ys)
theorem Ob.same {H H' : Hp} {C x q1 q2 : Addr} {nm : V} {xs ys : List V} (s : Same H H') (h : Ob H C x q1 q2 nm xs ys) : Ob H' C x q1 q2 nm xs ys := by
  obtain ⟨⟨dx, fs, h1, h2⟩, h3, h4⟩ := h
  exact ⟨⟨dx, fs, s _ _ h1, h2⟩, s _ _ h3, s _ _ h4⟩
theorem Ob.but {H H' : Hp} {C x q1 q2 p : Addr} {nm : V} {xs ys zs : List V} (s : Go.But p H H') (e : H p = some (.lst zs)) (n1 : q1 ≠ p) (n2 : q2 ≠ p) (h : Ob H C x q1 q2 nm xs ys) : Ob H' C x q1 q2 nm xs ys := by
  obtain ⟨⟨dx, fs, h1, h2⟩, h3, h4⟩ := h
  exact ⟨⟨dx, fs, s _ _ (fun z => by rw [z, e] at h1; cases h1) h1, h2⟩, s _ _ n1 h3, s _ _ n2 h4⟩
theorem Ob.grow {H H' : Hp} {C x q1 q2 : Addr} {nm : V} {xs ys : List V} (s : Go.Grow H H') (h : Ob H C x q1 q2 nm xs ys) : Ob H' C x q1 q2 nm xs ys := by
  obtain ⟨⟨dx, fs, h1, h2⟩, h3, h4⟩ := h
  exact ⟨⟨dx, fs, Go.oX s (fun _ z => nomatch z) h1, h2⟩, Go.oX s Go.lst_ne h3, Go.oX s Go.lst_ne h4⟩
/-- an archive -/
structure Ar (H : Hp) (C x q1 : Addr) (nm : V) (xs : List V) : Prop where
  ex : ∃ dx fs, H x = some (.ins C dx fs) ∧ fs.lookup ("name" : Str) = some nm ∧ fs.lookup ("_members" : Str) = some (.ref q1)
  l1 : H q1 = some (.lst xs)
def Fld (K : PySem.W.Frag) (f : Str) (x : V) (H : Hp) (Q : VK) : Prop := ∃ a C dx fs v, x = .ref a ∧ H a = some (.ins C dx fs) ∧ Cls K C ∧ NoAttr K C f ∧ fs.lookup f = some v ∧ Q v H
theorem lsz {a b : Str} {n m : Nat} (h1 : a.length ≤ n) (h2 : b.length ≤ m) : (a ++ b).length ≤ n + m := by
  rw [Str.length_append]
  exact Nat.add_le_add h1 h2
theorem lenI {n : Nat} (h : n ≤ 1000) : (Str.ofString (toString (n : Int))).length ≤ 100 := by
  have e := int_text_length_le10 (a := (n : Int)) (k := 4) (by decide) (by show n < 10 ^ 4; omega)
  rw [PySem.ofString_length]
  omega
theorem lenD {x : Str} {n : Nat} (h : decide (x.length ≤ n) = true) : x.length ≤ n := of_decide_eq_true h
theorem log2I {n : Nat} (h : n ≤ 1000) : (n : Int).natAbs.log2 < 1920 := by
  show n.log2 < 1920
  by_cases c : n = 0
  · rw [c]; decide
  · have q : n.log2 < 10 := (Nat.log2_lt c).mpr (Nat.lt_of_le_of_lt h (by decide))
    omega
theorem big {n : Nat} (h : n ≤ 1000000) : n ≤ sizeLine := Nat.le_trans h (by decide)
/-- the label of an object -/
def obLab (z : Str) (n : Nat) : Str := ((("Object(" ++ z) ++ ", ") ++ Str.ofString (toString ((n : Nat) : Int))) ++ " pieces)"
theorem inLs {K : PySem.W.Frag} {H : Hp} {z : Str} {p : Addr} {l : List Str} {Q : VK} (h : SeqA K H p (l.map V.str)) (q : Q (.bl (l.contains z)) H) : rIn K false (.str z) (.ref p) H Q :=
  ⟨p, _, rfl, h, rfl, by rw [List.all_eq_true]; intro x hx; obtain ⟨y, _, rfl⟩ := List.mem_map.mp hx; rfl, by rw [inV_str]; exact q⟩
section
variable {P : Program} {w : World} {K : PySem.W.Frag} {mg : Str → Option Value} {base : Heap} {Z : Fs}
def sp_obj_len (C : Addr) : Sp := fun vs H Q _ => ∃ (x q1 q2 : Addr) (nm : V) (xs ys : List V), vs = [.ref x] ∧ Ob H C x q1 q2 nm xs ys ∧ Q (.int (xs.length : Nat)) H
theorem ok_Object_len (T : Txt K w mg Z) : FnOk P w K mg base CX0 1 Z.a_Object___len__ Z.d_Object___len__ ["self"] (sp_obj_len Z.C_Object) := by
  refine T.F_Object___len__.ok sc_Object___len__ (fun vs H Q E h => ?_) (fun cdv A outer s H vs Q E hr h => ?_)
  · obtain ⟨x, q1, q2, nm, xs, ys, rfl, _⟩ := h
    rfl
  · obtain ⟨x, q1, q2, nm, xs, ys, rfl, ⟨⟨dx, fs, hx, of⟩, l1, l2⟩, k⟩ := h
    refine ⟨_, (pss_one (ps_ret (pe_callB (Go.c_len : CallR _ _ (Go.RLen K)) (by rfl) T.n_len boot_len (pa_cons (pe_fld (pv 0) rfl) pa_nil)))), ?_⟩
    exact ⟨.ref x, rfl, x, _, dx, _, .ref q1, rfl, hx, T.cl_Object, T.n_Object__pieces, of.ps, .ref q1, xs.length, rfl, .inl ⟨_, SqL.of l1, rfl⟩, k⟩
def sp_arch_len (C : Addr) : Sp := fun vs H Q _ => ∃ (x q1 : Addr) (nm : V) (xs : List V), vs = [.ref x] ∧ Ar H C x q1 nm xs ∧ Q (.int (xs.length : Nat)) H
theorem ok_Archive_len (T : Txt K w mg Z) : FnOk P w K mg base CX0 1 Z.a_Archive___len__ Z.d_Archive___len__ ["self"] (sp_arch_len Z.C_Archive) := by
  refine T.F_Archive___len__.ok sc_Archive___len__ (fun vs H Q E h => ?_) (fun cdv A outer s H vs Q E hr h => ?_)
  · obtain ⟨x, q1, nm, xs, rfl, _⟩ := h
    rfl
  · obtain ⟨x, q1, nm, xs, rfl, ⟨⟨dx, fs, hx, _, of⟩, l1⟩, k⟩ := h
    refine ⟨_, (pss_one (ps_ret (pe_callB (Go.c_len : CallR _ _ (Go.RLen K)) (by rfl) T.n_len boot_len (pa_cons (pe_fld (pv 0) rfl) pa_nil)))), ?_⟩
    exact ⟨.ref x, rfl, x, _, dx, _, .ref q1, rfl, hx, T.cl_Archive, T.n_Archive__members, of, .ref q1, xs.length, rfl, .inl ⟨_, SqL.of l1, rfl⟩, k⟩
def sp_obj_pieces (C : Addr) : Sp := fun vs H Q _ => ∃ (x q1 q2 : Addr) (nm : V) (xs ys : List V), vs = [.ref x] ∧ Ob H C x q1 q2 nm xs ys ∧ ∀ H' p, Same H H' → H p = none → H' p = some (.lst xs) → Q (.ref p) H'
theorem ok_Object_pieces (T : Txt K w mg Z) : FnOk P w K mg base CX0 1 Z.a_Object_pieces Z.d_Object_pieces ["self"] (sp_obj_pieces Z.C_Object) := by
  refine T.F_Object_pieces.ok sc_Object_pieces (fun vs H Q E h => ?_) (fun cdv A outer s H vs Q E hr h => ?_)
  · obtain ⟨x, q1, q2, nm, xs, ys, rfl, _⟩ := h
    rfl
  · obtain ⟨x, q1, q2, nm, xs, ys, rfl, ⟨⟨dx, fs, hx, of⟩, l1, l2⟩, k⟩ := h
    refine ⟨_, (pss_one (ps_ret (pe_callTy Go.c_list (by rfl) T.n_list boot_list (pa_cons (pe_fld (pv 0) rfl) pa_nil)))), ?_⟩
    exact ⟨.ref x, rfl, x, _, dx, _, .ref q1, rfl, hx, T.cl_Object, T.n_Object__pieces, of.ps, q1, xs, rfl, .inl (SqL.of l1), fun p hp => k _ p (Go.Sn hp) hp upd_same⟩
def sp_obj_outside (C : Addr) : Sp := fun vs H Q _ => ∃ (x q1 q2 : Addr) (nm : V) (xs ys : List V), vs = [.ref x] ∧ Ob H C x q1 q2 nm xs ys ∧ ∀ H' p, Same H H' → H p = none → H' p = some (.lst ys) → Q (.ref p) H'
theorem ok_Object_outside (T : Txt K w mg Z) : FnOk P w K mg base CX0 1 Z.a_Object_outside Z.d_Object_outside ["self"] (sp_obj_outside Z.C_Object) := by
  refine T.F_Object_outside.ok sc_Object_outside (fun vs H Q E h => ?_) (fun cdv A outer s H vs Q E hr h => ?_)
  · obtain ⟨x, q1, q2, nm, xs, ys, rfl, _⟩ := h
    rfl
  · obtain ⟨x, q1, q2, nm, xs, ys, rfl, ⟨⟨dx, fs, hx, of⟩, l1, l2⟩, k⟩ := h
    refine ⟨_, (pss_one (ps_ret (pe_callTy Go.c_list (by rfl) T.n_list boot_list (pa_cons (pe_fld (pv 0) rfl) pa_nil)))), ?_⟩
    exact ⟨.ref x, rfl, x, _, dx, _, .ref q2, rfl, hx, T.cl_Object, T.n_Object__foreign, of.os, q2, ys, rfl, .inl (SqL.of l2), fun p hp => k _ p (Go.Sn hp) hp upd_same⟩
def sp_obj_repr (C : Addr) : Sp := fun vs H Q _ => ∃ (x q1 q2 : Addr) (z : Str) (xs ys : List V), vs = [.ref x] ∧ Ob H C x q1 q2 (.str z) xs ys ∧ z.length ≤ 100 ∧ xs.length ≤ 1000 ∧ Q (.str (obLab z xs.length)) H
theorem ok_Object_repr (T : Txt K w mg Z) : FnOk P w K mg base CX0 1 Z.a_Object___repr__ Z.d_Object___repr__ ["self"] (sp_obj_repr Z.C_Object) := by
  refine T.F_Object___repr__.ok sc_Object___repr__ (fun vs H Q E h => ?_) (fun cdv A outer s H vs Q E hr h => ?_)
  · obtain ⟨x, q1, q2, z, xs, ys, rfl, _⟩ := h
    rfl
  · obtain ⟨x, q1, q2, z, xs, ys, rfl, ⟨⟨dx, fs, hx, of⟩, l1, l2⟩, lz, lx, k⟩ := h
    refine ⟨_, (pss_one (ps_ret (pe_joined (.cons pe_str (.cons (pe_fmt (pe_fld (pv 0) rfl)) (.cons pe_str (.cons (pe_fmt (pe_callB (Go.c_len : CallR _ _ (Go.RLen K)) (by rfl) T.n_len boot_len (pa_cons (pe_fld (pv 0) rfl) pa_nil))) (.cons pe_str .nil)))))))), ?_⟩
    have e0 : Str.empty ++ Str.ofString "Object(" = Str.ofString "Object(" := by decide +kernel
    have b1 := lsz (lenD (x := "Object(") (n := 7) (by decide +kernel)) lz
    have b2 := lsz b1 (lenD (x := ", ") (n := 2) (by decide +kernel))
    have b3 := lsz b2 (lenI lx)
    have b4 := lsz b3 (lenD (x := " pieces)") (n := 8) (by decide +kernel))
    refine ⟨"Object(", rfl, ?_, ?_⟩
    · rw [e0]
      exact lenD (by decide +kernel)
    rw [e0]
    refine ⟨.ref x, rfl, x, _, dx, _, .str z, rfl, hx, T.cl_Object, T.n_Object_name, of.name, .inl ⟨z, rfl, big (Nat.le_trans lz (by decide)), z, rfl, big (Nat.le_trans b1 (by decide)), ?_⟩⟩
    refine ⟨", ", rfl, big (Nat.le_trans b2 (by decide)), ?_⟩
    refine ⟨.ref x, rfl, x, _, dx, _, .ref q1, rfl, hx, T.cl_Object, T.n_Object__pieces, of.ps, .ref q1, xs.length, rfl, .inl ⟨_, SqL.of l1, rfl⟩, .inr ⟨_, rfl, log2I lx, _, rfl, big (Nat.le_trans b3 (by decide)), ?_⟩⟩
    exact ⟨" pieces)", rfl, big (Nat.le_trans b4 (by decide)), k⟩
def sp_obj_has (K : PySem.W.Frag) (C : Addr) : Sp := fun vs H Q _ => ∃ (x q1 q2 : Addr) (z : Str) (nm : V) (xs ys : List V) (ns : List Str), vs = [.ref x, .str z] ∧ Ob H C x q1 q2 nm xs ys ∧ Paired (Nmd K H) xs ns ∧ xs.length ≤ 1000 ∧ ∀ H', Same H H' → Q (.bl (ns.contains z)) H'
theorem ok_Object_has (T : Txt K w mg Z) : FnOk P w K mg base CX0 2 Z.a_Object___contains__ Z.d_Object___contains__ ["self", "value"] (sp_obj_has K Z.C_Object) := by
  have G_names := ok_names (P := P) (base := base) T
  refine T.F_Object___contains__.ok sc_Object___contains__ (fun vs H Q E h => ?_) (fun cdv A outer s H vs Q E hr h => ?_)
  · obtain ⟨x, q1, q2, z, nm, xs, ys, ns, rfl, _⟩ := h
    rfl
  · obtain ⟨x, q1, q2, z, nm, xs, ys, ns, rfl, ⟨⟨dx, fs, hx, of⟩, l1, l2⟩, hn, lx, k⟩ := h
    refine ⟨_, (pss_one (ps_ret (pe_cmpR (op_in_seq : OpR _ _ (rIn K false)) (pv 1) (pe_call G_names (hr.mono (by omega)) (by rfl) T.m_names T.F_names.kp T.b_names .nil pass0 (pa_cons (pe_fld (pv 0) rfl) pa_nil)) (by rfl)))), ?_⟩
    refine ⟨.str z, rfl, .ref x, rfl, x, _, dx, _, .ref q1, rfl, hx, T.cl_Object, T.n_Object__pieces, of.ps, q1, xs, ns, rfl, .inl (SqL.of l1), hn, lx, fun H' p s np ep => inLs (.inl (SqL.of ep)) (k _ s)⟩
/-- == of two objects of the same name, the same pieces, the same names outside -/
def sp_obj_eq (C : Addr) : Sp := fun vs H Q _ => ∃ (x p1 p2 y q1 q2 : Addr) (z : Str) (xs ys zs : List V), vs = [.ref x, .ref y] ∧ Ob H C x p1 p2 (.str z) xs ys ∧ Ob H C y q1 q2 (.str z) xs zs ∧ (∀ v ∈ xs, ∃ a, v = .ref a) ∧ (∃ l : List Str, ys = l.map V.str ∧ zs = l.map V.str) ∧ ∀ H', Same H H' → Q (.bl true) H'
theorem ok_Object_eq (T : Txt K w mg Z) : FnOk P w K mg base CX0 3 Z.a_Object___eq__ Z.d_Object___eq__ ["self", "other"] (sp_obj_eq Z.C_Object) := by
  refine T.F_Object___eq__.ok sc_Object___eq__ (fun vs H Q E h => ?_) (fun cdv A outer s H vs Q E hr h => ?_)
  · obtain ⟨x, p1, p2, y, q1, q2, z, xs, ys, zs, rfl, _⟩ := h
    rfl
  · obtain ⟨x, p1, p2, y, q1, q2, z, xs, ys, zs, rfl, ⟨⟨dx, fs, hx, of⟩, l1, l2⟩, ⟨⟨dy, gs, hy, og⟩, m1, m2⟩, hr1, ⟨l, rfl, rfl⟩, k⟩ := h
    refine ⟨_, (pss_one (ps_ret (pe_and (pe_callB (call_isi : CallR _ _ (rIsi K)) (by rfl) T.n_isinstance boot_isinstance (pa_cons (pv 1) (pa_cons (pe_glob (v := .ref Z.C_Object) (by rfl) T.m_Object rfl) pa_nil))) (pe_and (pe_cmpR op_eq (pe_fld (pv 0) rfl) (pe_fld (pv 1) rfl) (nomark _)) (pe_and (pe_cmpR (op_eqG rcG_ids (hr.mono (by omega))) (pe_fld (pv 0) rfl) (pe_fld (pv 1) rfl) (nomark _)) (pe_one (pe_cmpR (op_eqG rcG_ids (hr.mono (by omega))) (pe_fld (pv 0) rfl) (pe_fld (pv 1) rfl) (nomark _)))))))), ?_⟩
    refine ⟨.ref y, rfl, _, _, _, _, true, rfl, .own _, TyX.insK T.i_Object hy, T.i_Object.ins.me, true, rfl, iteT ?_⟩
    refine ⟨.ref x, rfl, x, _, dx, _, .str z, rfl, hx, T.cl_Object, T.n_Object_name, of.name, .ref y, rfl, y, _, dy, _, .str z, rfl, hy, T.cl_Object, T.n_Object_name, og.name, rfl, _, rfl, iteY rfl ?_⟩
    refine ⟨.ref x, rfl, x, _, dx, _, .ref p1, rfl, hx, T.cl_Object, T.n_Object__pieces, of.ps, .ref y, rfl, y, _, dy, _, .ref q1, rfl, hy, T.cl_Object, T.n_Object__pieces, og.ps, ?_⟩
    refine ⟨⟨p1, q1, xs, xs, rfl, rfl, l1, m1, rfl, fun i u v hu hv => ?_⟩, fun H1 s1 => ⟨_, rfl, iteT ?_⟩⟩
    · rw [hu] at hv
      cases hv
      exact .inl (let ⟨a, e⟩ := hr1 _ (List.mem_of_getElem? hu); ⟨a, e, e⟩)
    have s1 : Same H H1 := s1
    refine ⟨.ref x, rfl, x, _, dx, _, .ref p2, rfl, s1 _ _ hx, T.cl_Object, T.n_Object__foreign, of.os, .ref y, rfl, y, _, dy, _, .ref q2, rfl, s1 _ _ hy, T.cl_Object, T.n_Object__foreign, og.os, ?_⟩
    refine ⟨⟨p2, q2, l.map V.str, l.map V.str, rfl, rfl, s1 _ _ l2, s1 _ _ m2, rfl, fun i u v hu hv => ?_⟩, fun H2 s2 => k _ (s1.trans s2)⟩
    rw [hu] at hv
    cases hv
    obtain ⟨t, _, rfl⟩ := List.mem_map.mp (List.mem_of_getElem? hu)
    exact .inr ⟨rfl, rfl, by show (t == t) = true; exact beq_self_eq_true t⟩
end

/-! ### the older view of what is drawn: of a text, too -/
section
variable {P : Program} {w : World} {K : PySem.W.Frag} {mg : Str → Option Value} {base : Heap} {Z : Fs}
def Thg (K : PySem.W.Frag) (H : Hp) (b : Addr) (t : V) (Pt : V → Prop) : Prop := (∃ z : Str, t = .str z ∧ 0 < z.cps.size ∧ z.cps.size ≤ 100000 ∧ ∀ c ∈ z.cps.toList, Pt (.str ⟨#[c]⟩)) ∨ ∃ (a : Addr) (xs : List V), t = .ref a ∧ a ≠ b ∧ SqL K H a xs ∧ 0 < xs.length ∧ xs.length ≤ 100000 ∧ ∀ v ∈ xs, Pt v
def sp_law_ofO (K : PySem.W.Frag) : Sp := fun vs H Q _ => ∃ (b l : Addr) (t : V) (Pt : V → Prop), vs = [.ref b, t] ∧ Bag H b l ∧ Thg K H b t Pt ∧ ∀ (H' : Hp) (v : V), Stp b H H' → Bag H' b l → Pt v → Q v H'
theorem ok_law_ofO (T : Txt K w mg Z) : FnOk P w K mg base CX0 2 Z.a_law_of Z.d_law_of ["_law_bag_here", "_law_things"] (sp_law_ofO K) := by
  have G_law_draw : FnOk P w K mg base CX0 1 Z.a_law_draw Z.d_law_draw ["_law_bag_here", "_law_sides"] sp_law_draw := ok_law_draw T
  refine T.F_law_of.ok sc_law_of (fun vs H Q E h => ?_) (fun cdv A outer s H vs Q E hr h => ?_)
  · obtain ⟨b, l, t, Pt, rfl, _⟩ := h
    rfl
  · obtain ⟨b, l, t, Pt, rfl, B, ht, k⟩ := h
    refine ⟨_, (pss_one (ps_ret (pe_ix ix_seq (pv 1) (pe_call G_law_draw (hr.mono (by omega)) (by rfl) T.m_law_draw T.F_law_draw.kp T.b_law_draw .nil pass0 (pa_cons (pv 0) (pa_cons (pe_callB (Go.c_len : CallR _ _ (Go.RLen K)) (by rfl) T.n_len boot_len (pa_cons (pv 1) pa_nil)) pa_nil))) (fun _ _ => rfl)))), ?_⟩
    rcases ht with ⟨z, rfl, z0, z1, hz⟩ | ⟨a, xs, rfl, nab, hx, x0, x1, hv⟩
    · refine ⟨_, rfl, .ref b, rfl, .str z, rfl, .str z, z.cps.size, rfl, ⟨Nat.le_trans z1 (by decide), rfl⟩, b, l, _, rfl, B, by omega, by omega, fun H' v s1 B1 v0 v1 => ?_⟩
      obtain ⟨c, hc, hm⟩ := mem_at (xs := z.cps.toList) v0 (by simpa using v1)
      exact .inr (.inr ⟨z, v, c, rfl, rfl, Nat.le_trans z1 (by decide), hc, k _ _ s1 B1 (hz c hm)⟩)
    · refine ⟨_, rfl, .ref b, rfl, .ref a, rfl, .ref a, xs.length, rfl, .inl ⟨_, hx, rfl⟩, b, l, _, rfl, B, by omega, by omega, fun H' v s1 B1 v0 v1 => ?_⟩
      obtain ⟨c, hc, hm⟩ := mem_at (xs := xs) v0 v1
      exact .inl ⟨a, xs, v, c, rfl, rfl, s1.sqL nab hx, hc, k _ _ s1 B1 (hv c hm)⟩
end

/-! ### texts of drawn signs -/
theorem joinL_ones : ∀ cs : List Nat, TL.joinL [] (cs.map fun c => [c]) = cs
  | [] => rfl
  | [_] => rfl
  | c :: d :: r => by
    show [c] ++ ([] ++ TL.joinL [] ((d :: r).map fun c => [c])) = c :: d :: r
    rw [joinL_ones (d :: r)]
    rfl
theorem join_ones (cs : List Nat) : Txt.join ("" : Str) (cs.map fun c => (⟨#[c]⟩ : Str)) = ⟨cs.toArray⟩ := by
  have e : ("" : Str) = SX.S [] := by decide +kernel
  have e2 : (cs.map fun c => (⟨#[c]⟩ : Str)) = (cs.map fun c => [c]).map SX.S := by
    rw [List.map_map]
    rfl
  rw [e, e2, SX.join_S, joinL_ones]
theorem len_ones : ∀ cs : List Nat, ((cs.map fun c => (⟨#[c]⟩ : Str)).map (·.length)).sum = cs.length
  | [] => rfl
  | c :: r => by
    rw [List.map_cons, List.map_cons, List.sum_cons, len_ones r, List.length_cons]
    show 1 + r.length = r.length + 1
    omega
theorem mem1 {α : Type} {P : α → Prop} {x : α} (h : P x) : ∀ y ∈ [x], P y := fun y m => by
  rw [List.mem_singleton.mp m]
  exact h
theorem mema {α : Type} {P : α → Prop} {l r : List α} (h : ∀ y ∈ l, P y) (t : ∀ y ∈ r, P y) : ∀ y ∈ l ++ r, P y := fun y m => by
  rcases List.mem_append.mp m with m | m
  · exact h y m
  · exact t y m
theorem Thg.lst {K : PySem.W.Frag} {H : Hp} {b a : Addr} {xs : List V} {Pt : V → Prop} (ne : a ≠ b) (h : SqL K H a xs) (h0 : 0 < xs.length) (hl : xs.length ≤ 100000) (hx : ∀ v ∈ xs, Pt v) : Thg K H b (.ref a) Pt := .inr ⟨a, xs, rfl, ne, h, h0, hl, hx⟩

/-! ### list of a text -/
theorem call_list_str1 {X : Cx} (hc : X.calm = true) : CallR X (.type "list") (fun xs H Q => ∃ z : Str, xs = [.str z] ∧ z.cps.size ≤ sizeLine ∧ ∀ p, H p = none → Q (.ref p) (upd H p (.lst (z.cps.toList.map fun c => V.str ⟨#[c]⟩)))) := by
  intro pins s σ H xs us Q I r h
  obtain ⟨z, rfl, hz, q⟩ := h
  obtain ⟨u, rfl, t, rfl⟩ := vals1 r
  refine PySem.call_list_str (I.ok.hd hc) z t (fun h' tk acc' c' hk hS' hacc => ?_) hz
  have rv : Vals (z.cps.toList.map fun c => V.str ⟨#[c]⟩) acc'.toList := vals_of_idx _ _ (by simpa using hacc.1) fun j u hj => by
    obtain ⟨c, t2, hc2, rfl⟩ := hacc.2 j u (by simpa using hj)
    exact ⟨.str ⟨#[c]⟩, by simp [hc2], ⟨t2, rfl⟩⟩
  exact ⟨.ref s.heap.objs.size, _, I.laid (t' := tk) hk (Nat.le_refl _) (show ObjOk X.prog X.w _ h' _ (.lst _) from ⟨by simpa using hz, acc'.toList, c', rv, by simpa using hS'⟩), rfl, q _ (I.hok.fresh (Nat.le_refl _))⟩

/-! ### names and rows, as data -/
def Nm (z : Str) : Prop := 1 ≤ z.cps.size ∧ z.cps.size ≤ 6 ∧ z.cps.toList.all inL = true
theorem Nm.strK {z : Str} (h : Nm z) : StrK z := ⟨by have := h.2.1; omega, fun c m => by
  have q := List.all_eq_true.mp h.2.2 c m
  simp only [inL, Bool.and_eq_true, decide_eq_true_eq] at q
  omega⟩
/-- a code row; ts the names it may have -/
inductive CRow (ts : List Str) : List V → Prop where
  | put {r : V} {n : Int} (hr : r ∈ regs) (h0 : 0 ≤ n) (h1 : n ≤ 65535) : CRow ts [.str "put", r, .int n]
  | name {r : V} {t : Str} (hr : r ∈ regs) (ht : t ∈ ts) : CRow ts [.str "name", r, .str t]
  | ifzero {r : V} {t : Str} (hr : r ∈ regs) (ht : t ∈ ts) : CRow ts [.str "ifzero", r, .str t]
  | add {r s : V} (hr : r ∈ regs) (hs : s ∈ regs) : CRow ts [.str "add", r, s]
  | take {r s : V} (hr : r ∈ regs) (hs : s ∈ regs) : CRow ts [.str "take", r, s]
  | load {r s : V} {d : Int} (hr : r ∈ regs) (hs : s ∈ regs) (h0 : 0 ≤ d) (h1 : d ≤ 15) : CRow ts [.str "load", r, s, .int d]
  | store {r s : V} {d : Int} (hr : r ∈ regs) (hs : s ∈ regs) (h0 : 0 ≤ d) (h1 : d ≤ 15) : CRow ts [.str "store", r, s, .int d]
  | jump {t : Str} (ht : t ∈ ts) : CRow ts [.str "jump", .str t]
  | call {t : Str} (ht : t ∈ ts) : CRow ts [.str "call", .str t]
  | callby {r : V} (hr : r ∈ regs) : CRow ts [.str "callby", r]
  | out {r : V} (hr : r ∈ regs) : CRow ts [.str "out", r]
  | back : CRow ts [.str "back"]
  | halt : CRow ts [.str "halt"]
  | room {k : Int} (h0 : 1 ≤ k) (h1 : k ≤ 120) : CRow ts [.str "room", .int k]
/-- a data row -/
inductive DRow (ts : List Str) : List V → Prop where
  | word {n : Int} (h0 : 0 ≤ n) (h1 : n ≤ 65535) : DRow ts [.str "word", .int n]
  | address {t : Str} (ht : t ∈ ts) : DRow ts [.str "address", .str t]
  | room {k : Int} (h0 : 1 ≤ k) (h1 : k ≤ 120) : DRow ts [.str "room", .int k]
theorem Stp.putnew {b p : Addr} {H H' : Hp} {o : HO} (s : Stp b H H') (h : H p = none) : Stp b H (upd H' p o) := fun a u n e => by
  rw [upd_ne (ne_of_none e h)]
  exact s a u n e
theorem cut_to {cs : List Nat} {k : Int} (h : 0 ≤ k) : cutS (⟨cs.toArray⟩ : Str) none (some k) = ⟨(cs.take k.toNat).toArray⟩ := (C8.cutS_slice _ _ _).trans (SX.slice_to h)
theorem cut_from {cs : List Nat} {k : Int} (h : 0 ≤ k) : cutS (⟨cs.toArray⟩ : Str) (some k) none = ⟨(cs.drop k.toNat).toArray⟩ := (C8.cutS_slice _ _ _).trans (SX.slice_from h)
theorem cat_S (a b : List Nat) : (⟨a.toArray⟩ : Str) ++ (⟨b.toArray⟩ : Str) = ⟨(a ++ b).toArray⟩ := SX.S_cat a b
theorem len_S (a : List Nat) : (⟨a.toArray⟩ : Str).length = a.length := SX.S_len a
theorem map_er {α β : Type} (f : α → β) : ∀ (l : List α) (i : Nat), (l.map f).eraseIdx i = (l.eraseIdx i).map f
  | [], _ => rfl
  | _ :: _, 0 => rfl
  | a :: l, i + 1 => congrArg (f a :: ·) (map_er f l i)
theorem Thg.abc {K : PySem.W.Frag} {H : Hp} {b : Addr} : Thg K H b (.str "abcdefghijklmnopqrstuvwxyz") (fun v => ∃ c, v = .str ⟨#[c]⟩ ∧ inL c = true) :=
  .inl ⟨_, rfl, by decide +kernel, by decide +kernel, fun c m => ⟨c, rfl, by rw [← in_abc]; exact decide_eq_true m⟩⟩
/-- a title: the stem with a letter put in -/
def mkT (cs : List Nat) (k : Nat) (c : Nat) : Str := ⟨((cs.take k ++ [c]) ++ cs.drop k).toArray⟩
theorem mkT_inj {cs : List Nat} {k x y : Nat} (h : mkT cs k x = mkT cs k y) : x = y := by
  have h1 : (cs.take k ++ [x]) ++ cs.drop k = (cs.take k ++ [y]) ++ cs.drop k := by
    have q := congrArg (fun z : Str => z.cps.toList) h
    simpa [mkT] using q
  have h2 := List.append_cancel_right h1
  have h3 := List.append_cancel_left h2
  exact (List.cons.inj h3).1
theorem nodup_map {α β : Type} {f : α → β} (hf : ∀ x y, f x = f y → x = y) : ∀ {l : List α}, l.Nodup → (l.map f).Nodup
  | [], _ => List.nodup_nil
  | x :: l, h => by
    obtain ⟨h1, h2⟩ := List.nodup_cons.mp h
    rw [List.map_cons]
    refine List.nodup_cons.mpr ⟨fun m => ?_, nodup_map hf h2⟩
    obtain ⟨y, hy, e⟩ := List.mem_map.mp m
    rw [hf _ _ e] at hy
    exact h1 hy
theorem perm_eraseIdx {α : Type} : ∀ {l : List α} {i : Nat} (h : i < l.length), (l[i] :: l.eraseIdx i).Perm l
  | _ :: _, 0, _ => List.Perm.refl _
  | x :: l, i + 1, h => by
    have q := perm_eraseIdx (l := l) (i := i) (by simpa using h)
    rw [List.eraseIdx_cons_succ, List.getElem_cons_succ]
    exact (List.Perm.swap x _ _).trans (q.cons x)
theorem nodup_move {us ls : List Nat} {i : Nat} (h : i < ls.length) (nd : (us ++ ls).Nodup) : ((us ++ [ls[i]]) ++ ls.eraseIdx i).Nodup := by
  rw [List.append_assoc, List.singleton_append]
  exact ((perm_eraseIdx h).append_left us).nodup_iff.mpr nd
section
variable {P : Program} {w : World} {K : PySem.W.Frag} {mg : Str → Option Value} {base : Heap} {Z : Fs}
/-! ### _law_titles -/
def sp_law_titles (K : PySem.W.Frag) : Sp := fun vs H Q _ => ∃ (b l : Addr) (many : Nat), vs = [.ref b, .int many] ∧ Bag H b l ∧ many ≤ 20 ∧ ∀ (H' : Hp) (p : Addr) (zs : List Str), Stp b H H' → Bag H' b l → H p = none → p ≠ b → p ≠ l → H' p = some (.lst (zs.map V.str)) → zs.length = many → (∀ z ∈ zs, Nm z) → zs.Nodup → Q (.ref p) H'
theorem ok_law_titles (T : Txt K w mg Z) : FnOk P w K mg base CX0 3 Z.a_law_titles Z.d_law_titles ["_law_bag_here", "_law_many"] (sp_law_titles K) := by
  have G_law_draw : FnOk P w K mg base CX0 1 Z.a_law_draw Z.d_law_draw ["_law_bag_here", "_law_sides"] sp_law_draw := ok_law_draw T
  have G_law_of : FnOk P w K mg base CX0 2 Z.a_law_of Z.d_law_of ["_law_bag_here", "_law_things"] (sp_law_ofO K) := ok_law_ofO T
  refine T.F_law_titles.ok sc_law_titles (fun vs H Q E h => ?_) (fun cdv A outer s H vs Q E hr h => ?_)
  · obtain ⟨b, l, many, rfl, _⟩ := h
    rfl
  · obtain ⟨b, l, many, rfl, B, hm, k⟩ := h
    refine ⟨_, (pss_cons (ps_par (i := 2) (j := 3) (by rfl) sc_law_titles.nd rfl rfl (by decide) rfl rfl (pa_cons (pe_callTy (call_list_str1 rfl) (by rfl) T.n_list boot_list (pa_cons pe_str pa_nil)) (pa_cons (pe_lst pa_nil) pa_nil)) (by rfl))
      (pss_cons (ps_set (i := 4) sc_law_titles.nd rfl (Or.inl rfl) (pe_join pe_str (pe_lc (own := [("_law_k", 5)]) (g := gName 5) (tt := tYes) rfl sc_law_titles.nd (pi_range1 (by rfl) T.n_range (pa_cons (pe_call G_law_draw (hr.mono (by omega)) (by rfl) T.m_law_draw T.F_law_draw.kp T.b_law_draw .nil pass0 (pa_cons (pv 0) (pa_cons pe_int pa_nil))) pa_nil)) (blkOk_by (N := N_law_titles) (sc := defScope s_law_titles) (by decide +kernel)) (fun _ _ _ _ _ => pg_name (i := 5) sc_law_titles.nd rfl (Or.inl rfl)) (fun _ _ _ _ _ => pts_nil) (fun _ _ _ _ _ => (pe_call G_law_of (hr.mono (by omega)) (by rfl) T.m_law_of T.F_law_of.kp T.b_law_of .nil pass0 (pa_cons (pv 0) (pa_cons pe_str pa_nil)))))))
      (pss_cons (ps_set (i := 6) sc_law_titles.nd rfl (Or.inl rfl) (pe_call G_law_draw (hr.mono (by omega)) (by rfl) T.m_law_draw T.F_law_draw.kp T.b_law_draw .nil pass0 (pa_cons (pv 0) (pa_cons (pe_op op_add (pe_callB (Go.c_len : CallR _ _ (Go.RLen K)) (by rfl) T.n_len boot_len (pa_cons (pv 4) pa_nil)) pe_int) pa_nil))))
      (pss_cons (ps_for PassesOwn.never rfl (pi_range1 (by rfl) T.n_range (pa_cons (pv 1) pa_nil)) (pg_name (i := 5) sc_law_titles.nd rfl (Or.inl rfl)) (pss_one (ps_expr (pe_bm PySem.F.plainAttrs_list PySem.F.slot_list_append PySem.F.type_list_append mt_append (pv 3) (pa_cons (pe_op Go.c_addS (pe_op Go.c_addS (pe_slice sl_str (pv 4) po_none (po_some (pv 6))) (pe_bm PySem.F.plainAttrs_list PySem.F.slot_list_pop PySem.F.type_list_pop mt_popAt (pv 2) (pa_cons (pe_call G_law_draw (hr.mono (by omega)) (by rfl) T.m_law_draw T.F_law_draw.kp T.b_law_draw .nil pass0 (pa_cons (pv 0) (pa_cons (pe_callB (Go.c_len : CallR _ _ (Go.RLen K)) (by rfl) T.n_len boot_len (pa_cons (pv 2) pa_nil)) pa_nil))) pa_nil))) (pe_slice sl_str (pv 4) (po_some (pv 6)) po_none)) pa_nil)))))
      (pss_one (ps_ret (pv 3))))))), ?_⟩
    refine ⟨_, rfl, (by decide +kernel), fun p1 h1 => ⟨Nat.zero_le _, fun p2 h2 => ⟨_, _, rfl, ?_⟩⟩⟩
    have n1 := B.ne h1
    have l1 := B.nel h1
    have s1 : Same H (upd H p1 (.lst (("abcdefghijklmnopqrstuvwxyz" : Str).cps.toList.map fun c => V.str ⟨#[c]⟩))) := Same.new h1
    have e1 : (upd H p1 (.lst (("abcdefghijklmnopqrstuvwxyz" : Str).cps.toList.map fun c => V.str ⟨#[c]⟩))) p1 = some (.lst (("abcdefghijklmnopqrstuvwxyz" : Str).cps.toList.map fun c => V.str ⟨#[c]⟩)) := upd_same
    generalize upd H p1 (.lst (("abcdefghijklmnopqrstuvwxyz" : Str).cps.toList.map fun c => V.str ⟨#[c]⟩)) = H1 at s1 e1 h2 ⊢
    have B1 := B.same s1
    have n2 := B1.ne h2
    have l2 := B1.nel h2
    have n12 : p1 ≠ p2 := ne_of_none e1 h2
    have z2 : H p2 = none := s1.free h2
    have s2 : Same H1 (upd H1 p2 (.lst [])) := Same.new h2
    have e2 : (upd H1 p2 (.lst [])) p2 = some (.lst []) := upd_same
    generalize upd H1 p2 (.lst []) = H2 at s2 e2 ⊢
    replace e1 := s2 _ _ e1
    have B2 := B1.same s2
    have s02 : Stp b H H2 := Same.stp (s1.trans s2)
    clear s1 s2 B1 h2
    -- stem
    refine ⟨⟨_, rfl⟩, .ref b, rfl, b, l, 6, rfl, B2, by decide, by decide, fun H3 d s3 B3 g0 g1 => ⟨d, rfl, by omega, by omega, fun D hD => ?_⟩⟩
    have nD := B3.ne hD
    have lD := B3.nel hD
    refine lc_it walk_range (fun i H' => Bag H' b l ∧ Stp b H3 H' ∧ ∃ cs : List Nat, H' D = some (.lst ((cs.map fun c => (⟨#[c]⟩ : Str)).map V.str)) ∧ cs.length = i ∧ ∀ c ∈ cs, inL c = true) ⟨B3.new hD, Stp.new hD, [], upd_same, rfl, mem0⟩ (fun _ _ _ _ => True.intro) ?_ ?_
    · rintro j x H4 H5 hj ⟨B4, s4, cs, e4, lc, hc⟩ ⟨rfl, rfl⟩
      refine ⟨rfl, .ref b, rfl, b, l, _, _, rfl, B4, Thg.abc, fun H6 v s6 B6 hv => ?_⟩
      obtain ⟨c, rfl, hc4⟩ := hv
      refine ⟨_, s6 _ _ nD e4, ?_, B6.put nD lD, (s4.trans s6).putnew hD, cs ++ [c], ?_, ?_, mema hc (mem1 hc4)⟩
      · rw [List.length_map, List.length_map, lc]
        exact Nat.lt_of_lt_of_le (show j < 6 by omega) (by decide)
      · rw [upd_same]
        simp
      · simp [lc]
    rintro H4 ⟨B4, s4, cs, e4, lc, hc⟩
    refine ⟨_, D, cs.map fun c => (⟨#[c]⟩ : Str), rfl, rfl, .inl (SqL.of e4), ?_, ?_⟩
    · rw [len_ones, List.length_map, lc]
      show d.toNat + d.toNat * 0 ≤ 16777216
      omega
    rw [join_ones]
    have lc' : cs.length ≤ 5 := by omega
    replace s4 := s3.trans s4
    replace s02 := s02.trans s4
    replace e1 := s4 _ _ n1 e1
    replace e2 := s4 _ _ n2 e2
    clear e4 lc nD lD hD B3 s3 B2 s4 g0 g1
    -- spot
    refine ⟨.ref b, rfl, _, rfl, _, cs.length, rfl, ⟨by rw [len_S]; exact Nat.le_trans lc' (by decide), (len_S cs).symm⟩, _, _, rfl, rfl, b, l, _, rfl, B4, by omega, by omega, fun H5 sp s5 B5 q0 q1 => ?_⟩
    replace s02 := s02.trans s5
    replace e1 := s5 _ _ n1 e1
    replace e2 := s5 _ _ n2 e2
    clear s5 B4
    refine ⟨.int many, rfl, many, rfl, by omega, by omega, for_range (lo := 0) (n := (many : Int).toNat) (fun i σ H' => ∃ (y5 : Option V) (ls us : List Nat) (zs : List Str), σ = [some (.ref b), some (.int many), some (.ref p1), some (.ref p2), some (.str ⟨cs.toArray⟩), y5, some (.int sp)] ∧ Bag H' b l ∧ Stp b H H' ∧
      H' p1 = some (.lst (ls.map fun c => V.str ⟨#[c]⟩)) ∧ ls.length + i = 26 ∧ (∀ c ∈ ls, inL c = true) ∧ H' p2 = some (.lst (zs.map V.str)) ∧ zs.length = i ∧ (∀ z ∈ zs, Nm z) ∧ zs = us.map (mkT cs sp.toNat) ∧ (us ++ ls).Nodup)
      ⟨_, _, [], [], rfl, B5, s02, e1, by decide +kernel, (fun c m => by rw [← in_abc]; exact decide_eq_true m), e2, rfl, mem0, rfl, by decide +kernel⟩ ?_ ?_⟩
    · rintro i σ H6 hi ⟨y5, ls, us, zs, rfl, B6, s6, f1, ll, hl, f2, lz, hz, ez, nd⟩
      refine ⟨.ref p2, rfl, .inl ⟨rfl, _, SqL.of f2⟩, _, rfl, .int sp, rfl, sp, rfl, _, rfl, (by rw [len_S]; exact Nat.le_trans lc' (by decide)), ?_⟩
      rw [cut_to q0]
      refine ⟨.ref p1, rfl, .inl ⟨rfl, _, SqL.of f1⟩, .ref b, rfl, .ref p1, rfl, .ref p1, ls.length, rfl, .inl ⟨_, SqL.of f1, by rw [List.length_map]⟩, b, l, _, rfl, B6, by omega, by omega, fun H7 d s7 B7 d0 d1 => ?_⟩
      have hd : d.toNat < ls.length := by omega
      refine ⟨p1, _, d, d.toNat, .str ⟨#[ls[d.toNat]]⟩, rfl, rfl, s7 _ _ n1 f1, by omega, by omega, (by rw [List.length_map]; exact seqIndex_of d0 (by omega)), (by rw [List.getElem?_map, List.getElem?_eq_getElem hd]; rfl), ?_⟩
      refine ⟨_, _, rfl, rfl, (by rw [len_S]; show _ + 1 ≤ sizeLine; exact Nat.le_trans (show (cs.take sp.toNat).length + 1 ≤ 100 by rw [List.length_take]; omega) (by decide)), ?_⟩
      rw [show (⟨#[ls[d.toNat]]⟩ : Str) = ⟨[ls[d.toNat]].toArray⟩ from rfl, cat_S]
      refine ⟨_, rfl, .int sp, rfl, sp, rfl, _, rfl, (by rw [len_S]; exact Nat.le_trans lc' (by decide)), ?_⟩
      rw [cut_from q0]
      refine ⟨_, _, rfl, rfl, (by rw [len_S, len_S]; exact Nat.le_trans (show (cs.take sp.toNat ++ [ls[d.toNat]]).length + (cs.drop sp.toNat).length ≤ 100 by rw [List.length_append, List.length_take, List.length_drop, List.length_singleton]; omega) (by decide)), ?_⟩
      rw [cat_S]
      have g2 : (upd H7 p1 (.lst ((ls.map fun c => V.str ⟨#[c]⟩).eraseIdx d.toNat))) p2 = some (.lst (zs.map V.str)) := by
        rw [upd_ne n12.symm]
        exact s7 _ _ n2 f2
      refine ⟨p2, _, _, rfl, rfl, g2, (by rw [List.length_map, lz]; exact Nat.lt_of_lt_of_le (show i < 20 by omega) (by decide)), ?_⟩
      refine ⟨_, ls.eraseIdx d.toNat, us ++ [ls[d.toNat]], zs ++ [_], rfl, (B7.put n1 l1).put n2 l2, ((s6.trans s7).putnew h1).putnew z2, ?_, ?_, fun c m => hl c (List.mem_of_mem_eraseIdx m), by rw [upd_same, List.map_append]; rfl, by rw [List.length_append, lz]; rfl, mema hz (mem1 ?_), by rw [ez, List.map_append]; rfl, nodup_move hd nd⟩
      · rw [upd_ne n12, upd_same]
        rw [map_er]
      · rw [List.length_eraseIdx_of_lt hd]
        omega
      · refine ⟨?_, ?_, ?_⟩
        · simp
          omega
        · simp
          omega
        · rw [List.all_eq_true]
          intro c m
          have m : c ∈ (cs.take sp.toNat ++ [ls[d.toNat]]) ++ cs.drop sp.toNat := by simpa using m
          rcases List.mem_append.mp m with m | m
          · rcases List.mem_append.mp m with m | m
            · exact hc c (List.mem_of_mem_take m)
            · rw [List.mem_singleton.mp m]
              exact hl _ (List.getElem_mem hd)
          · exact hc c (List.mem_of_mem_drop m)
    · rintro σ H6 ⟨y5, ls, us, zs, rfl, B6, s6, f1, ll, hl, f2, lz, hz, ez, nd⟩
      refine ⟨.ref p2, rfl, k _ _ zs s6 B6 z2 n2 l2 f2 (by omega) hz ?_⟩
      rw [ez]
      exact nodup_map (fun x y => mkT_inj) (List.nodup_append.mp nd).1
end

theorem eqv_nil : PyData.eqv (.list []) (.list []) = true := by decide +kernel
theorem eqv_cons (d : PyData) (ds : List PyData) : PyData.eqv (.list (d :: ds)) (.list []) = false := by rfl
theorem dp_strs {K : PySem.W.Frag} {H : Hp} : ∀ l : List Nat, DpAll K H (l.map fun c => V.str ⟨#[c]⟩) (l.map fun c => PyData.str ⟨#[c]⟩)
  | [] => .nil
  | c :: l => .cons (.str _) (dp_strs l)
theorem lay_strs : ∀ l : List Nat, (∀ c ∈ l, c < 1114112) → PyData.canLayAll0 (l.map fun c => PyData.str ⟨#[c]⟩) = true
  | [], _ => by simp [PyData.canLayAll0]
  | c :: l, h => by
    have h1 := h c (List.mem_cons_self ..)
    have h2 := lay_strs l fun d m => h d (List.mem_cons_of_mem _ m)
    simp [PyData.canLayAll0, PyData.canLay0, PyData.strOk, h1, h2]
theorem dep_strs : ∀ l : List Nat, PyData.depthAll (l.map fun c => PyData.str ⟨#[c]⟩) ≤ 1
  | [] => by simp [PyData.depthAll]
  | c :: l => by
    have h2 := dep_strs l
    simp [PyData.depthAll, PyData.depth]
    omega
theorem shaped_strs {l : List Nat} (h : ∀ c ∈ l, c < 1114112) : SeqAt.shaped (.list (l.map fun c => PyData.str ⟨#[c]⟩)) = true := by
  have h1 := lay_strs l h
  have h2 := dep_strs l
  simp [SeqAt.shaped, PyData.canLay0, PyData.depth, h1]
  omega
section
variable {P : Program} {w : World} {K : PySem.W.Frag} {mg : Str → Option Value} {base : Heap} {Z : Fs}
def sp_law_is_title (K : PySem.W.Frag) : Sp := fun vs H Q _ => ∃ (v : V) (b : Addr) (n : Nat), vs = [v] ∧ Okv K H b n v ∧ ∀ H' : Hp, Same H H' → Q (.bl (nmV v)) H'
theorem ok_law_is_title (T : Txt K w mg Z) : FnOk P w K mg base CX0 1 Z.a_law_is_title Z.d_law_is_title ["_law_thing"] (sp_law_is_title K) := by
  refine T.F_law_is_title.ok sc_law_is_title (fun vs H Q E h => ?_) (fun cdv A outer s H vs Q E hr h => ?_)
  · obtain ⟨v, b, n, rfl, _⟩ := h
    rfl
  · obtain ⟨v, b, n, rfl, ok, k⟩ := h
    refine ⟨_, (pss_cons (ps_if (PW.pt (pw_or (pt_not (pt_val (pe_callB (call_isi : CallR _ _ (rIsi K)) (by rfl) T.n_isinstance boot_isinstance (pa_cons (pv 0) (pa_cons (pe_bltn (v := .ty "str") (by rfl) T.n_str boot_str rfl) pa_nil))))) (pw_or (pt_cmpR op_lt (pe_callB (Go.c_len : CallR _ _ (Go.RLen K)) (by rfl) T.n_len boot_len (pa_cons (pv 0) pa_nil)) pe_int (nomark _)) (pw_or1 (pt_cmpR op_gt (pe_callB (Go.c_len : CallR _ _ (Go.RLen K)) (by rfl) T.n_len boot_len (pa_cons (pv 0) pa_nil)) pe_int (nomark _)))))) (pss_one (ps_ret pe_bl)) pss_nil)
      (pss_one (ps_ret (pe_cmpR (op_eqD hr.units) (pe_lc (own := [("_law_sign", 1)]) (g := gName 1) rfl sc_law_is_title.nd (pi_str (pv 0)) (blkOk_by (N := N_law_is_title) (sc := defScope s_law_is_title) (by decide +kernel)) (fun _ _ _ _ _ => pg_name (i := 1) sc_law_is_title.nd rfl (Or.inl rfl)) (fun _ _ _ _ _ => pts_one (pt_cmpR op_notIn_sign (pv 1) pe_str rfl)) (fun _ _ _ _ _ => (pv 1))) (pe_lst pa_nil) (nomark _))))), ?_⟩
    obtain ⟨t, ty, kS, _, _⟩ := ok.ty
    refine ⟨v, rfl, v, .ty "str", t, _, _, rfl, .ty _, ty, kS, _, rfl, ?_⟩
    cases hv : isS v with
    | false =>
      refine iteT (iteT ?_)
      have e : nmV v = false := by
        cases v with
        | str z => cases hv
        | _ => rfl
      rw [← e]
      exact k _ (Same.refl _)
    | true =>
      obtain ⟨z, rfl⟩ := isS_of hv
      refine iteF ?_
      refine ⟨.str z, rfl, .str z, z.cps.size, rfl, ⟨Nat.le_trans ok.short (by decide), rfl⟩, _, _, rfl, rfl, _, rfl, ite2 (fun h1 => ?_) (fun h1 => ?_)⟩
      · have e : nmV (.str z) = false := by
          have q : ¬ 1 ≤ z.cps.size := fun q => by
            have q2 := of_decide_eq_true h1
            omega
          simp [nmV, q]
        refine iteT ?_
        rw [← e]
        exact k _ (Same.refl _)
      · have h1' : 1 ≤ z.cps.size := by
          have q : ¬ ((z.cps.size : Int) < 1) := fun q => h1 (decide_eq_true q)
          omega
        refine ⟨.str z, rfl, .str z, z.cps.size, rfl, ⟨Nat.le_trans ok.short (by decide), rfl⟩, _, _, rfl, rfl, _, rfl, ite2 (fun h2 => ?_) (fun h2 => ?_)⟩
        · have e : nmV (.str z) = false := by
            have q : ¬ z.cps.size ≤ 6 := fun q => by
              have q2 := of_decide_eq_true h2
              omega
            simp [nmV, q]
          show Q (.bl false) H
          rw [← e]
          exact k _ (Same.refl _)
        · have h2' : z.cps.size ≤ 6 := by
            have q : ¬ ((6 : Int) < z.cps.size) := fun q => h2 (decide_eq_true q)
            omega
          refine ⟨.str z, rfl, z, rfl, fun D hD => ?_⟩
          refine lc_it (walk_str (z := z)) (fun i H' => Same H H' ∧ H' D = some (.lst (((z.cps.toList.take i).filter fun c => !inL c).map fun c => V.str ⟨#[c]⟩))) ⟨Same.new hD, upd_same⟩ (fun _ _ _ _ => True.intro) ?_ ?_
          · rintro i v H2 H3 hi ⟨s2, e2⟩ ⟨rfl, c, hc, rfl⟩
            have hc' : z.cps.toList[i]? = some c := by simpa using hc
            refine ⟨rfl, .str ⟨#[c]⟩, rfl, c, _, rfl, rfl, _, rfl, ?_⟩
            rw [in_abc]
            cases hq : inL c with
            | false =>
              refine iteT ⟨_, rfl, _, e2, ?_, Same.put s2 hD, ?_⟩
              · rw [List.length_map]
                exact Nat.lt_of_le_of_lt (List.length_filter_le _ _) (Nat.lt_of_le_of_lt (List.length_take_le _ _) (Nat.lt_of_lt_of_le hi (Nat.le_trans ok.short (by decide))))
              · rw [upd_same, List.take_add_one, hc', List.filter_append, List.map_append]
                simp [hq]
            | true =>
              refine iteF ⟨s2, ?_⟩
              rw [e2, List.take_add_one, hc', List.filter_append, List.map_append]
              simp [hq]
          · rintro H' ⟨s2, e2⟩
            refine ⟨Nat.zero_le _, fun p hp => ?_⟩
            have nDp : D ≠ p := ne_of_none e2 hp
            refine ⟨.list _, .list [], .lst (SqL.of (by rw [upd_ne nDp]; exact e2)) (dp_strs _), .lst (SqL.of upd_same) .nil, shaped_strs (fun c m => ok.strK.2 c (List.mem_of_mem_take (List.mem_filter.mp m).1)), rfl, ?_⟩
            have e : PyData.eqv (.list (((z.cps.toList.take z.cps.size).filter fun c => !inL c).map fun c => PyData.str ⟨#[c]⟩)) (.list []) = nmV (.str z) := by
              rw [List.take_of_length_le (by simp)]
              have hn : nmV (.str z) = z.cps.toList.all inL := by simp [nmV, h1', h2']
              rw [hn]
              cases hf : (z.cps.toList.filter fun c => !inL c) with
              | nil =>
                rw [List.filter_eq_nil_iff] at hf
                have ha : z.cps.toList.all inL = true := by
                  rw [List.all_eq_true]
                  intro c hc
                  have q := hf c hc
                  simpa using q
                rw [ha]
                exact eqv_nil
              | cons c r =>
                have hm : c ∈ z.cps.toList.filter fun c => !inL c := by
                  rw [hf]
                  exact List.mem_cons_self ..
                rw [List.mem_filter] at hm
                have ha : z.cps.toList.all inL = false := by
                  rw [List.all_eq_false]
                  exact ⟨c, hm.1, by simpa using hm.2⟩
                rw [ha]
                exact eqv_cons _ _
            rw [e]
            exact k _ (s2.trans (Same.new hp))
end

theorem nmV_of {z : Str} (h : Nm z) : nmV (.str z) = true := by
  obtain ⟨h1, h2, h3⟩ := h
  simp [nmV, h1, h2, h3]

open Lend LamX NdefX SupX DicX
/-! ### names, titles, what may stand among the values -/
theorem Nm.sho {z : Str} (h : Nm z) : Sho z := by
  have q := StrLaws.reprText_len z fun c m => Nat.lt_trans (h.strK.2 c m) (by decide)
  have q2 : z.length ≤ 6 := h.2.1
  show (reprText z).length ≤ 4000
  omega
theorem Nm.odd {K : PySem.W.Frag} {H : Hp} {b : Addr} {z : Str} (h : Nm z) : Odd K H b (.str z) (.str z) := ⟨.str h.strK, Nat.zero_le _, h.sho.shows⟩
section
variable {K : PySem.W.Frag} {H H' : Hp} {b p : Addr} {v : V} {d : PyData}
theorem Dt.flat (h : Dt K H b v d) (z : dep d = 0) : Dt K H' b v d := by
  cases h with
  | non => exact .non
  | bl k => exact .bl k
  | int i => exact .int i
  | str h => exact .str h
  | lst _ _ _ _ => simp [dep] at z
  | tup _ _ _ _ => simp [dep] at z
theorem DtA.flat : ∀ {vs : List V} {ds : List PyData}, DtA K H b vs ds → depA ds = 0 → DtA K H' b vs ds
  | _, _, .nil, _ => .nil
  | _, _, .cons h r, z => .cons (Dt.flat h (by simp [depA] at z; omega)) (DtA.flat r (by simp [depA] at z; omega))
/-- an odd value that is not the list at p -/
structure OddP (K : PySem.W.Frag) (H : Hp) (b p : Addr) (v : V) (d : PyData) : Prop where
  odd : Odd K H b v d
  nr : ∀ a, v = .ref a → a ≠ p
theorem OddP.put (h : OddP K H b p v d) (s : Go.But p H H') : OddP K H' b p v d := by
  refine ⟨⟨?_, h.odd.deep, ?_⟩, h.nr⟩
  · have z := h.odd.deep
    have nr := h.nr
    cases h.odd.dt with
    | non => exact .non
    | bl k => exact .bl k
    | int i => exact .int i
    | str hz => exact .str hz
    | lst h1 n l r => exact .lst (Go.lB s (nr _ rfl) h1) n l (DtA.flat r (by simp [dep] at z; omega))
    | tup h1 n l r => exact .tup (Go.tB s (nr _ rfl) h1) n l (DtA.flat r (by simp [dep] at z; omega))
  · obtain ⟨c, h1, h2⟩ := h.odd.shows
    refine ⟨c, ?_, h2⟩
    rcases h1 with h1 | ⟨a, xs, ts, rfl, h1, f, l⟩
    · exact .inl h1
    · rcases h1 with h1 | h1
      · exact .inr ⟨a, xs, ts, rfl, .inl (Go.tB s (h.nr _ rfl) h1), f, l⟩
      · exact .inr ⟨a, xs, ts, rfl, .inr (Go.lB s (h.nr _ rfl) h1), f, l⟩
theorem OddP.but (s : Go.But b H H') (h : OddP K H b p v d) : OddP K H' b p v d := ⟨h.odd.but s, h.nr⟩
theorem OddP.same (s : Same H H') (h : OddP K H b p v d) : OddP K H' b p v d := ⟨h.odd.same s, h.nr⟩
theorem OddP.grow (s : Go.Grow H H') (h : OddP K H b p v d) : OddP K H' b p v d := ⟨h.odd.grow s, h.nr⟩
/-- a value's type, as long as the heap only grows -/
theorem Dt.tyS (h : Dt K H b v d) : ∃ T : String, T ∈ six ∧ ∀ G, Same H G → TyX K G v (.type T) := by
  cases h with
  | non => exact ⟨"NoneType", by decide, fun G _ => .base .non⟩
  | bl k => exact ⟨"bool", by decide, fun G _ => .base (.bl k)⟩
  | int i => exact ⟨"int", by decide, fun G _ => .base (.int i)⟩
  | str h => exact ⟨"str", by decide, fun G _ => .base (.str _)⟩
  | lst h1 n l r => exact ⟨"list", by decide, fun G s => tyx_l (Go.lS s h1)⟩
  | tup h1 n l r => exact ⟨"tuple", by decide, fun G s => tyx_t (Go.tS s h1)⟩
/-- what a value is: a piece, an object, an archive, or an odd one -/
inductive Kd
  | piece (n : Str)
  | obj (n : Str)
  | arch
  | odd
def Kd.pn : Kd → Option Str
  | .piece n => some n
  | _ => none
def Kd.on : Kd → Option Str
  | .obj n => some n
  | _ => none
inductive Val (K : PySem.W.Frag) (Z : Fs) (H : Hp) (b p : Addr) : V → Kd → Prop
  | piece {a dx : Addr} {fs : List (Str × V)} {n : Str} : H a = some (.ins Z.C_Piece dx fs) → fs.lookup ("name" : Str) = some (.str n) → Nm n → Val K Z H b p (.ref a) (.piece n)
  | obj {a dx : Addr} {fs : List (Str × V)} {n : Str} : H a = some (.ins Z.C_Object dx fs) → fs.lookup ("name" : Str) = some (.str n) → Nm n → Val K Z H b p (.ref a) (.obj n)
  | arch {a dx : Addr} {fs : List (Str × V)} : H a = some (.ins Z.C_Archive dx fs) → Val K Z H b p (.ref a) .arch
  | odd {v : V} {d : PyData} : OddP K H b p v d → Val K Z H b p v .odd
theorem ins_ne {a q C dx : Addr} {fs : List (Str × V)} {ys : List V} (h : H a = some (.ins C dx fs)) (e : H q = some (.lst ys)) : a ≠ q := fun z => by rw [z, e] at h; cases h
theorem Val.but {Z : Fs} {k : Kd} {yb : List V} (s : Go.But b H H') (e : H b = some (.lst yb)) (h : Val K Z H b p v k) : Val K Z H' b p v k := by
  cases h with
  | piece h1 h2 h3 => exact .piece (s _ _ (ins_ne h1 e) h1) h2 h3
  | obj h1 h2 h3 => exact .obj (s _ _ (ins_ne h1 e) h1) h2 h3
  | arch h1 => exact .arch (s _ _ (ins_ne h1 e) h1)
  | odd h => exact .odd (h.but s)
theorem Val.put {Z : Fs} {k : Kd} {yp : List V} (s : Go.But p H H') (e : H p = some (.lst yp)) (h : Val K Z H b p v k) : Val K Z H' b p v k := by
  cases h with
  | piece h1 h2 h3 => exact .piece (s _ _ (ins_ne h1 e) h1) h2 h3
  | obj h1 h2 h3 => exact .obj (s _ _ (ins_ne h1 e) h1) h2 h3
  | arch h1 => exact .arch (s _ _ (ins_ne h1 e) h1)
  | odd h => exact .odd (h.put s)
theorem Val.same {Z : Fs} {k : Kd} (s : Same H H') (h : Val K Z H b p v k) : Val K Z H' b p v k := by
  cases h with
  | piece h1 h2 h3 => exact .piece (s _ _ h1) h2 h3
  | obj h1 h2 h3 => exact .obj (s _ _ h1) h2 h3
  | arch h1 => exact .arch (s _ _ h1)
  | odd h => exact .odd (h.same s)
theorem Val.grow {Z : Fs} {k : Kd} (s : Go.Grow H H') (h : Val K Z H b p v k) : Val K Z H' b p v k := by
  cases h with
  | piece h1 h2 h3 => exact .piece (Go.oX s (fun _ z => nomatch z) h1) h2 h3
  | obj h1 h2 h3 => exact .obj (Go.oX s (fun _ z => nomatch z) h1) h2 h3
  | arch h1 => exact .arch (Go.oX s (fun _ z => nomatch z) h1)
  | odd h => exact .odd (h.grow s)
theorem insTy {C a dx : Addr} {fs : List (Str × V)} (I : IsK K C) (e : H a = some (.ins C dx fs)) : ∀ G, Same H G → TyX K G (.ref a) (.ref C) := fun G s => TyX.insK I (s _ _ e)
theorem Val.ofP {w : World} {mg : Str → Option Value} {Z : Fs} {k : Kd} (T : Txt K w mg Z) (h : Val K Z H b p v k) : Ofc K H Z.C_Piece v k.pn := by
  cases h with
  | piece h1 h2 h3 => exact .yes h1 T.n_Piece_name h2 h3.sho
  | obj h1 h2 h3 => exact .no (insTy T.i_Object h1) T.x_Object_Piece
  | arch h1 => exact .no (insTy T.i_Archive h1) T.x_Archive_Piece
  | odd h =>
    obtain ⟨t, m, ty⟩ := h.odd.dt.tyS
    exact .no ty (T.i_Piece.no t m)
theorem Val.ofO {w : World} {mg : Str → Option Value} {Z : Fs} {k : Kd} (T : Txt K w mg Z) (h : Val K Z H b p v k) : Ofc K H Z.C_Object v k.on := by
  cases h with
  | piece h1 h2 h3 => exact .no (insTy T.i_Piece h1) T.x_Piece_Object
  | obj h1 h2 h3 => exact .yes h1 T.n_Object_name h2 h3.sho
  | arch h1 => exact .no (insTy T.i_Archive h1) T.x_Archive_Object
  | odd h =>
    obtain ⟨t, m, ty⟩ := h.odd.dt.tyS
    exact .no ty (T.i_Object.no t m)
theorem ofc_six {w : World} {mg : Str → Option Value} {Z : Fs} {C : Addr} (I : IsK K C) (h : Dt K H b v d) : Ofc K H C v none := by
  obtain ⟨t, m, ty⟩ := h.tyS
  exact .no ty (I.no t m)
end
section
variable {P : Program} {w : World} {K : PySem.W.Frag} {mg : Str → Option Value} {base : Heap} {Z : Fs}
/-! ### _law_odd: of any more things -/
def sp_odd7 (K : PySem.W.Frag) : Sp := fun vs H Q _ => ∃ (b l a : Addr) (ms : List V), vs = [.ref b, .ref a] ∧ Bag H b l ∧ H a = some (.lst ms) ∧ a ≠ b ∧ ms.length ≤ 100 ∧ ∀ (H' : Hp) (v : V), Stp b H H' → Bag H' b l → ((∃ d, Odd K H' b v d) ∧ ∀ a, v = .ref a → H a = none) ∨ v ∈ ms → Q v H'
theorem i_odd7 {H : Hp} {Q : VK} {E : XK} {b l a : Addr} {ms : List V} (hB : Bag H b l) (ha : H a = some (.lst ms)) (n : a ≠ b) (hl : ms.length ≤ 100) (q : ∀ (H' : Hp) (v : V), Stp b H H' → Bag H' b l → ((∃ d, Odd K H' b v d) ∧ ∀ a, v = .ref a → H a = none) ∨ v ∈ ms → Q v H') : sp_odd7 K [.ref b, .ref a] H Q E := ⟨b, l, a, ms, rfl, hB, ha, n, hl, q⟩
theorem ok_odd7 (T : Txt K w mg Z) : FnOk P w K mg base CX0 3 Z.a_law_odd Z.d_law_odd ["_law_bag_here", "_law_more"] (sp_odd7 K) := by
  have G_law_of := ok_law_of (P := P) (base := base) T
  refine T.F_law_odd.ok sc_law_odd (fun vs H Q E h => ?_) (fun cdv A outer s H vs Q E hr h => ?_)
  · obtain ⟨b, l, a, ms, rfl, _⟩ := h
    rfl
  · obtain ⟨b, l, a, ms, rfl, hB, ha, nab, hl, k⟩ := h
    refine ⟨_, (pss_one (ps_ret (pe_call G_law_of (hr.mono (by omega)) (by rfl) T.m_law_of T.F_law_of.kp T.b_law_of .nil pass0 (pa_cons (pv 0) (pa_cons (pe_op op_cat (pe_lst (pa_cons pe_non (pa_cons pe_bl (pa_cons pe_bl (pa_cons pe_str (pa_cons pe_str (pa_cons (pe_un un_neg pe_int) (pa_cons pe_int (pa_cons (pe_tup pa_nil) (pa_cons (pe_lst pa_nil) (pa_cons (pe_tup (pa_cons pe_int pa_nil)) (pa_cons (pe_lst (pa_cons pe_str pa_nil)) (pa_cons pe_str (pa_cons (pe_tup (pa_cons pe_str (pa_cons pe_str pa_nil))) (pa_cons (pe_lst (pa_cons pe_non pa_nil)) pa_nil))))))))))))))) (pv 1)) pa_nil))))), ?_⟩
    rw [show L2.start N_law_odd [V.ref b, V.ref a] = [some (V.ref b), some (V.ref a)] from rfl]
    try dsimp only [cxOf, Cx.nox]
    tm_at "go"
    refine Go.cat (by tm_at "hpO") (by tm_at "hpO") (Go.le_line (by simp only [List.length_cons, List.length_nil]; omega)) rfl ?_
    tm_at "go"
    refine i_of (b := b) (l := l) (by tm_at "bag") (SqL.of (by assumption)) (by assumption) (by simp) (by simp; omega) fun H' v sB B hv => ?_
    refine k _ _ (by tm_at "but") B ?_
    rcases List.mem_append.mp hv with hv | hv
    · refine .inl ?_
      revert hv
      refine fun hv => (show ∀ y ∈ _, (∃ d, Odd K H' b y d) ∧ ∀ a, y = .ref a → H a = none from ?_) _ hv
      tm_at "all"
      all_goals (refine ⟨by tm_at "mkOdd", ?_⟩; intro a e; cases e; all_goals tm_at "non")
    · exact .inr hv
/-! ### _law_some, _law_mixed: of names -/
def sp_some (K : PySem.W.Frag) : Sp := fun vs H Q _ => ∃ (b l a : Addr) (zs : List Str), vs = [.ref b, .ref a] ∧ Bag H b l ∧ SqL K H a (zs.map V.str) ∧ a ≠ b ∧ zs.length ≤ 100 ∧ ∀ (H' : Hp) (q : Addr) (us : List Str), Stp b H H' → Bag H' b l → H q = none → H' q = some (.lst (us.map V.str)) → us.length ≤ zs.length → (∀ z ∈ us, z ∈ zs) → Q (.ref q) H'
theorem i_some {H : Hp} {Q : VK} {E : XK} {b l a : Addr} {zs : List Str} (hB : Bag H b l) (ha : SqL K H a (zs.map V.str)) (n : a ≠ b) (hl : zs.length ≤ 100) (q : ∀ (H' : Hp) (q : Addr) (us : List Str), Stp b H H' → Bag H' b l → H q = none → H' q = some (.lst (us.map V.str)) → us.length ≤ zs.length → (∀ z ∈ us, z ∈ zs) → Q (.ref q) H') : sp_some K [.ref b, .ref a] H Q E := ⟨b, l, a, zs, rfl, hB, ha, n, hl, q⟩
theorem ok_some (T : Txt K w mg Z) : FnOk P w K mg base CX0 2 Z.a_law_some Z.d_law_some ["_law_bag_here", "_law_things"] (sp_some K) := by
  have G_law_draw := ok_law_draw (P := P) (base := base) T
  refine T.F_law_some.ok sc_law_some (fun vs H Q E h => ?_) (fun cdv A outer s H vs Q E hr h => ?_)
  · obtain ⟨b, l, a, zs, rfl, _⟩ := h
    rfl
  · obtain ⟨b, l, a, zs, rfl, hB, ha, nab, hl, k⟩ := h
    refine ⟨_, (pss_one (ps_ret (pe_lc (own := [("_law_thing", 2)]) (g := gName 2) rfl sc_law_some.nd (pi_list (pv 1)) (blkOk_by (N := N_law_some) (sc := defScope s_law_some) (by decide +kernel)) (fun _ _ _ _ _ => pg_name (i := 2) sc_law_some.nd rfl (Or.inl rfl)) (fun _ _ _ _ _ => pts_one (pt_cmpR op_eq (pe_call G_law_draw (hr.mono (by omega)) (by rfl) T.m_law_draw T.F_law_draw.kp T.b_law_draw .nil pass0 (pa_cons (pv 0) (pa_cons pe_int pa_nil))) pe_int (nomark _))) (fun _ _ _ _ _ => (pv 2))))), ?_⟩
    rw [show L2.start N_law_some [V.ref b, V.ref a] = [some (V.ref b), some (V.ref a), none] from rfl]
    try dsimp only [cxOf, Cx.nox]
    tm_at "go"
    refine Go.lc_w (walk_list (K := K) (xs := zs.map V.str)) (fun L i H' => Stp b H H' ∧ Bag H' b l ∧ H L = none ∧ L ≠ b ∧ L ≠ l ∧ i ≤ zs.length ∧ ∃ us : List Str, H' L = some (.lst (us.map V.str)) ∧ us.length ≤ i ∧ ∀ z ∈ us, z ∈ zs) (by tm_at "wipe") ?_ ?_ ?_ ?_
    · intro L H2 n0 s2 e2
      have B2 := hB.same s2
      exact ⟨Same.stp s2, B2, n0, hB.ne n0, hB.nel n0, Nat.zero_le _, [], e2, Nat.le_refl _, mem0⟩
    · intro L i H2 hi ⟨s2, _⟩
      exact Go.lB s2 nab ha
    · rintro L i v H2 H3 hi ⟨s2, B2, nL, Lb, Ll, li, us, e2, lu, hu⟩ ⟨rfl, hv⟩
      rw [List.length_map] at hi
      rw [List.getElem?_map] at hv
      obtain ⟨z, ez, rfl⟩ := Option.map_eq_some_iff.mp hv
      tm_at "go"
      · rename_i H4 d s4 B4 d0 d1 hd
        refine Go.lcEnd (s4 _ _ Lb e2) (Go.lt_line (by rw [List.length_map]; omega)) fun H6 s6 e6 => ?_
        refine ⟨(s2.trans s4).own nL s6, B4.but s6 Lb.symm Ll.symm, nL, Lb, Ll, by omega, us ++ [z], by rw [e6, List.map_append]; rfl, by rw [List.length_append]; simp; omega, fun y m => ?_⟩
        rcases List.mem_append.mp m with m | m
        · exact hu y m
        · rw [List.mem_singleton.mp m]
          exact List.mem_of_getElem? ez
      · rename_i H4 d s4 B4 d0 d1 hd
        exact ⟨s2.trans s4, B4, nL, Lb, Ll, by omega, us, s4 _ _ Lb e2, by omega, hu⟩
    · rintro L H2 ⟨s2, B2, nL, Lb, Ll, li, us, e2, lu, hu⟩
      rw [List.length_map] at lu
      exact k H2 L us s2 B2 nL e2 lu hu
theorem er_mem {α : Type} : ∀ {xs : List α} {i : Nat} {y : α}, y ∈ xs.eraseIdx i → y ∈ xs := fun h => List.mem_of_mem_eraseIdx h
theorem popAt {l : Addr} {xs : List V} {i : Int} {y : V} {H : Hp} {Q : VK} (h : H l = some (.lst xs)) (i0 : 0 ≤ i) (hi : xs[i.toNat]? = some y) (b : xs.length ≤ 100000) (q : ∀ H', Go.But l H H' → H' l = some (.lst (xs.eraseIdx i.toNat)) → Q y H') : rPopAt (.ref l) [.int i] H Q := by
  have hl : i.toNat < xs.length := by
    obtain ⟨h, _⟩ := List.getElem?_eq_some_iff.mp hi
    exact h
  exact ⟨l, xs, i, i.toNat, y, rfl, rfl, h, by omega, by omega, seqIndex_of i0 (by omega), hi, q _ (fun a o n e => by rw [upd_ne n]; exact e) upd_same⟩
def sp_mixed (K : PySem.W.Frag) : Sp := fun vs H Q _ => ∃ (b l a : Addr) (zs : List Str), vs = [.ref b, .ref a] ∧ Bag H b l ∧ SqL K H a (zs.map V.str) ∧ a ≠ b ∧ zs.length ≤ 100 ∧ ∀ (H' : Hp) (q : Addr) (us : List Str), Stp b H H' → Bag H' b l → H q = none → H' q = some (.lst (us.map V.str)) → us.length = zs.length → (∀ z ∈ us, z ∈ zs) → Q (.ref q) H'
theorem i_mixed {H : Hp} {Q : VK} {E : XK} {b l a : Addr} {zs : List Str} (hB : Bag H b l) (ha : SqL K H a (zs.map V.str)) (n : a ≠ b) (hl : zs.length ≤ 100) (q : ∀ (H' : Hp) (q : Addr) (us : List Str), Stp b H H' → Bag H' b l → H q = none → H' q = some (.lst (us.map V.str)) → us.length = zs.length → (∀ z ∈ us, z ∈ zs) → Q (.ref q) H') : sp_mixed K [.ref b, .ref a] H Q E := ⟨b, l, a, zs, rfl, hB, ha, n, hl, q⟩
theorem ok_mixed (T : Txt K w mg Z) : FnOk P w K mg base CX0 2 Z.a_law_mixed Z.d_law_mixed ["_law_bag_here", "_law_things"] (sp_mixed K) := by
  have G_law_draw := ok_law_draw (P := P) (base := base) T
  refine T.F_law_mixed.ok sc_law_mixed (fun vs H Q E h => ?_) (fun cdv A outer s H vs Q E hr h => ?_)
  · obtain ⟨b, l, a, zs, rfl, _⟩ := h
    rfl
  · obtain ⟨b, l, a, zs, rfl, hB, ha, nab, hl, k⟩ := h
    refine ⟨_, (pss_cons (ps_par (i := 2) (j := 3) (by rfl) sc_law_mixed.nd rfl rfl (by decide) rfl rfl (pa_cons (pe_callTy Go.c_list (by rfl) T.n_list boot_list (pa_cons (pv 1) pa_nil)) (pa_cons (pe_lst pa_nil) pa_nil)) (by rfl))
      (pss_cons (ps_for PassesOwn.never rfl (pi_range1 (by rfl) T.n_range (pa_cons (pe_callB (Go.c_len : CallR _ _ (Go.RLen K)) (by rfl) T.n_len boot_len (pa_cons (pv 1) pa_nil)) pa_nil)) (pg_name (i := 4) sc_law_mixed.nd rfl (Or.inl rfl)) (pss_one (ps_expr (pe_bm PySem.F.plainAttrs_list PySem.F.slot_list_append PySem.F.type_list_append mt_append (pv 3) (pa_cons (pe_bm PySem.F.plainAttrs_list PySem.F.slot_list_pop PySem.F.type_list_pop mt_popAt (pv 2) (pa_cons (pe_call G_law_draw (hr.mono (by omega)) (by rfl) T.m_law_draw T.F_law_draw.kp T.b_law_draw .nil pass0 (pa_cons (pv 0) (pa_cons (pe_callB (Go.c_len : CallR _ _ (Go.RLen K)) (by rfl) T.n_len boot_len (pa_cons (pv 2) pa_nil)) pa_nil))) pa_nil)) pa_nil)))))
      (pss_one (ps_ret (pv 3))))), ?_⟩
    rw [show L2.start N_law_mixed [V.ref b, V.ref a] = [some (V.ref b), some (V.ref a), none, none, none] from rfl]
    try dsimp only [cxOf, Cx.nox]
    tm_at "go"
    rename_i L1 A1 n1 s1 e1 b1 l1 L2 A2 n2 s2 e2 b2 l2
    rw [List.length_map]
    have L12 : L1 ≠ L2 := ne_of_none e1 n2
    have B2 : Bag A2 b l := by tm_at "bag"
    have z1 : H L1 = none := n1
    have z2 : H L2 = none := Go.freeS s1 n2
    refine ⟨by omega, by omega, ?_⟩
    refine Go.for_w walk_range (fun i σ H' => ∃ (y4 : Option V) (ls us : List Str), σ = [some (.ref b), some (.ref a), some (.ref L1), some (.ref L2), y4] ∧ Stp b H H' ∧ Bag H' b l ∧ H' L1 = some (.lst (ls.map V.str)) ∧ H' L2 = some (.lst (us.map V.str)) ∧ us.length = i ∧ ls.length + i = zs.length ∧ (∀ z ∈ ls, z ∈ zs) ∧ ∀ z ∈ us, z ∈ zs)
      ⟨_, zs, [], rfl, Same.stp (s1.trans s2), B2, s2 _ _ e1, e2, rfl, rfl, fun _ h => h, mem0⟩ (fun _ _ _ _ _ => trivial) ?_ ?_
    · rintro i v σ H4 H5 hi ⟨y4, ls, us, rfl, s4, B4, f1, f2, lu, ll, hls, hus⟩ ⟨rfl, rfl⟩
      have hi' : i < zs.length := by omega
      have sz : sizeLine = sizeLine := rfl
      tm_at "go"
      refine ⟨.ref L2, rfl, .inl ⟨rfl, _, SqL.of f2⟩, .ref L1, rfl, .inl ⟨rfl, _, SqL.of f1⟩, ?_⟩
      tm_at "go"
      refine i_draw B4 (by rw [List.length_map]; omega) (by rw [List.length_map]; omega) fun H6 d s6 B6 d0 d1 => ?_
      rw [List.length_map] at d1
      have hd : d.toNat < ls.length := by omega
      refine popAt (s6 _ _ b1 f1) d0 (y := .str ls[d.toNat]) (by rw [List.getElem?_map, List.getElem?_eq_getElem hd]; rfl) (by rw [List.length_map]; omega) fun H7 s7 e7 => ?_
      have g2 : H7 L2 = some (.lst (us.map V.str)) := s7 _ _ L12.symm (s6 _ _ b2 f2)
      refine Go.app g2 (Go.lt_line (by rw [List.length_map]; omega)) rfl (Go.wr fun H8 s8 e8 => ?_)
      have S6 : Stp b H H6 := s4.trans s6
      refine ⟨_, ls.eraseIdx d.toNat, us ++ [ls[d.toNat]], rfl, (S6.own z1 s7).own z2 s8, (B6.but s7 b1.symm l1.symm).but s8 b2.symm l2.symm, ?_, ?_, ?_, ?_, fun z m => hls z (er_mem m), fun z m => ?_⟩
      · rw [← map_er]
        exact s8 _ _ L12 e7
      · rw [e8, List.map_append]
        rfl
      · rw [List.length_append, lu]
        rfl
      · rw [List.length_eraseIdx_of_lt hd]
        omega
      · rcases List.mem_append.mp m with m | m
        · exact hus z m
        · rw [List.mem_singleton.mp m]
          exact hls _ (List.getElem_mem hd)
    · rintro σ H4 ⟨y4, ls, us, rfl, s4, B4, f1, f2, lu, ll, hls, hus⟩
      tm_at "go"
      exact k _ _ us s4 B4 z2 f2 (by omega) hus
end

open Lend LamX NdefX SupX DicX
/-! ### a list or a tuple: an item, what is ahead of it -/
def rIxA (K : PySem.W.Frag) : R2 := fun x y H Q => rIxL K x y H Q ∨ rIxT K x y H Q
theorem ix_a {X : Cx} : IxR X (rIxA X.K) := ix_list.or ix_tup
def rSlB (K : PySem.W.Frag) : V → Option Int → Option Int → Hp → VK → Prop := fun x lo hi H Q => rSlL K x lo hi H Q ∨ rSlT K x lo hi H Q
theorem sl_b {X : Cx} : L2.SlR X (rSlB X.K) := sl_list.or sl_tup
theorem cut_take {xs : List V} {k : Nat} (h : k ≤ xs.length) : cutV xs none (some (k : Int)) = xs.take k := by
  unfold cutV
  rw [HT.sIx_none, HT.sIx_nat, List.drop_zero, Nat.sub_zero, Nat.min_eq_left h]
section
variable {K : PySem.W.Frag} {H : Hp} {a : Addr} {xs : List V} {Q : VK}
theorem ixA {i : Int} {v : V} (h : SeqA K H a xs) (g : atI xs i = some v) (q : Q v H) : rIxA K (.ref a) (.int i) H Q := h.elim (fun h => .inl (Go.ixL h g q)) fun h => .inr (Go.ixT h g q)
theorem slA {k : Nat} (h : SeqA K H a xs) (hk : k < xs.length) (q : ∀ p H', H p = none → Same H H' → SeqA K H' p (xs.take k) → Q (.ref p) H') : rSlB K (.ref a) none (some (k : Int)) H Q := by
  rcases h with h | h
  · exact .inl (Go.slL h (cut_take (Nat.le_of_lt hk)) (Go.new fun p H' n s e => q p H' n s (.inl (SqL.of e))))
  · refine .inr (Go.slT h (fun z => ?_) (cut_take (Nat.le_of_lt hk)) (Go.new fun p H' n s e => q p H' n s (.inr (SqT.of e))))
    have z2 := z.2
    rw [HT.sIx_nat, Nat.min_eq_left (Nat.le_of_lt hk)] at z2
    omega
theorem isiA {tp : Addr} (h : H tp = some (.tup [.ty "list", .ty "tuple"])) (hs : SeqA K H a xs) (q : Q (.bl true) H) : rIsiT K [.ref a, .ref tp] H Q := by
  rcases hs with z | z
  · exact isi2 h (tyx_l z) (show kitB "list" "list" = some true by decide +kernel) (show kitB "list" "tuple" = some false by decide +kernel) q
  · exact isi2 h (tyx_t z) (show kitB "tuple" "list" = some false by decide +kernel) (show kitB "tuple" "tuple" = some true by decide +kernel) q
end
/-! ### what is wrong with names outside -/
def lotE (k : Ko) (ns : List Str) : Option (List V) → Option (EKind × List V)
  | none => some (kOu k.o, [.int (-1)])
  | some xs => if 8 < xs.length then some (kMn k.m, [.int 8]) else outE k.o ns xs
theorem objE_lot {k : Ko} {nm : V} {os : List (Option Str)} {lot : Option (List V)} (h : nmV nm = true) (h2 : os.findIdx? (fun o => o.isNone) = none) (h3 : os.length ≤ 8) (h4 : dupE k.d (os.filterMap id) = none) : objE k nm os lot false = lotE k (os.filterMap id) lot := by
  have h5 : ¬ (8 < os.length ∧ false = false) := fun z => by omega
  cases lot with
  | none => rw [objE5 h h2 h5 h4]; rfl
  | some xs =>
    by_cases c : 8 < xs.length
    · rw [objE6 h h2 h5 h4 ⟨c, rfl⟩, lotE, if_pos c]
    · rw [objE7 h h2 h5 h4 (fun z => c z.1), lotE, if_neg c]
def ko0 : Ko := ⟨0, 0, 0, 0, 0⟩
section
variable {P : Program} {w : World} {K : PySem.W.Frag} {mg : Str → Option Value} {base : Heap} {Z : Fs}
theorem i_titleD {H : Hp} {Q : VK} {E : XK} {b : Addr} {v : V} {d : PyData} (h : Dt K H b v d) (q : ∀ H' : Hp, Same H H' → Q (.bl (nmV v)) H') : sp_law_is_title K [v] H Q E := ⟨v, b, dep d, rfl, h.okv (Nat.le_refl _), q⟩
def sp_outside_due (K : PySem.W.Frag) : Sp := fun vs H Q _ => ∃ (b q : Addr) (v : V) (lot : Option (List V)) (ns : List Str), vs = [v, .ref q] ∧ LotV K H b v lot ∧ H q = some (.lst (ns.map V.str)) ∧ ns.length ≤ 100 ∧ ∀ (H' : Hp) (t : Addr), Same H H' → H t = none → WhyAt (wy (lotE ko0 ns lot)) H' t → Q (.ref t) H'
theorem ok_outside_due (T : Txt K w mg Z) : FnOk P w K mg base CX0 2 Z.a_law_outside_due Z.d_law_outside_due ["_law_lot", "_law_names_y"] (sp_outside_due K) := by
  have G_law_is_title := ok_law_is_title (P := P) (base := base) T
  refine T.F_law_outside_due.ok sc_law_outside_due (fun vs H Q E h => ?_) (fun cdv A outer s H vs Q E hr h => ?_)
  · obtain ⟨b, q, v, lot, ns, rfl, _⟩ := h
    rfl
  · obtain ⟨b, q, v, lot, ns, rfl, hv, hq, ln, k⟩ := h
    refine ⟨_, (pss_cons (ps_if (pt_not (pt_val (pe_callB (call_isiT : CallR _ _ (rIsiT K)) (by rfl) T.n_isinstance boot_isinstance (pa_cons (pv 0) (pa_cons (pe_tup (pa_cons (pe_bltn (v := .ty "list") (by rfl) T.n_list boot_list rfl) (pa_cons (pe_bltn (v := .ty "tuple") (by rfl) T.n_tuple boot_tuple rfl) pa_nil))) pa_nil))))) (pss_one (ps_ret (pe_tup (pa_cons pe_str (pa_cons (pe_tup (pa_cons (pe_un un_neg pe_int) pa_nil)) pa_nil))))) pss_nil)
      (pss_cons (ps_if (pt_cmpR op_gt (pe_callB (Go.c_len : CallR _ _ (Go.RLen K)) (by rfl) T.n_len boot_len (pa_cons (pv 0) pa_nil)) pe_int (nomark _)) (pss_one (ps_ret (pe_tup (pa_cons pe_str (pa_cons (pe_tup (pa_cons pe_int pa_nil)) pa_nil))))) pss_nil)
      (pss_cons (ps_for PassesOwn.never rfl (pi_range1 (by rfl) T.n_range (pa_cons (pe_callB (Go.c_len : CallR _ _ (Go.RLen K)) (by rfl) T.n_len boot_len (pa_cons (pv 0) pa_nil)) pa_nil)) (pg_name (i := 2) sc_law_outside_due.nd rfl (Or.inl rfl)) (pss_one (ps_if (PW.pt (pw_or (pt_not (pt_val (pe_call G_law_is_title (hr.mono (by omega)) (by rfl) T.m_law_is_title T.F_law_is_title.kp T.b_law_is_title .nil pass0 (pa_cons (pe_ix (ix_a : IxR _ (rIxA K)) (pv 0) (pv 2) (fun _ _ => rfl)) pa_nil)))) (pw_or (pt_cmpR (op_in_seq : OpR _ _ (rIn K false)) (pe_ix (ix_a : IxR _ (rIxA K)) (pv 0) (pv 2) (fun _ _ => rfl)) (pe_slice (sl_b : SlR _ (rSlB K)) (pv 0) po_none (po_some (pv 2))) (by rfl)) (pw_or1 (pt_cmpR (op_in_seq : OpR _ _ (rIn K false)) (pe_ix (ix_a : IxR _ (rIxA K)) (pv 0) (pv 2) (fun _ _ => rfl)) (pv 1) (by rfl)))))) (pss_one (ps_ret (pe_tup (pa_cons pe_str (pa_cons (pe_tup (pa_cons (pv 2) pa_nil)) pa_nil))))) pss_nil)))
      (pss_one (ps_ret (pe_tup (pa_cons pe_str (pa_cons pe_non pa_nil)))))))), ?_⟩
    rw [show L2.start N_law_outside_due [v, V.ref q] = [some (v), some (V.ref q), none] from rfl]
    try dsimp only [cxOf, Cx.nox]
    cases hv with
    | no hf =>
      cases v with
      | non => tm_at "go"; exact k _ _ (by tm_at "same") (by tm_at "non") ⟨_, by assumption, by tm_at "hpO"⟩
      | bl x => tm_at "go"; exact k _ _ (by tm_at "same") (by tm_at "non") ⟨_, by assumption, by tm_at "hpO"⟩
      | int x => tm_at "go"; exact k _ _ (by tm_at "same") (by tm_at "non") ⟨_, by assumption, by tm_at "hpO"⟩
      | str x => tm_at "go"; exact k _ _ (by tm_at "same") (by tm_at "non") ⟨_, by assumption, by tm_at "hpO"⟩
      | _ => cases hf.1
    | @seq a xs ds hs hp hl =>
      tm_at "go"
      refine isiA (by assumption) (hs.same (by tm_at "same")) ?_
      tm_at "go"
      refine lenA (hs.same (by tm_at "same")) ?_
      rename_i tp H1 n1 s1 e1
      tm_at "go"
      · rename_i c
        exact k _ _ (by tm_at "same") (by tm_at "non") (show WhyAt (wy (lotE ko0 ns (some xs))) _ _ by rw [lotE, if_pos (by omega)]; exact ⟨_, by assumption, by tm_at "hpO"⟩)
      · rename_i c
        refine lenA (hs.same s1) ?_
        tm_at "go"
        have eL : lotE ko0 ns (some xs) = outE ko0.o ns xs := by rw [lotE, if_neg (by omega)]
        refine Go.for_w walk_range (fun i σ H' => ∃ (y2 : Option V) (us : List Str), σ = [some (.ref a), some (.ref q), y2] ∧ Same H H' ∧ xs.take i = us.map V.str ∧ outA ns.reverse 0 xs = outA (us.reverse ++ ns.reverse) i (xs.drop i)) ⟨_, [], rfl, s1, rfl, rfl⟩ (fun _ _ _ _ _ => trivial) ?_ ?_
        · rintro i x σ G1 G2 hi ⟨y2, us, rfl, sG, hu, eG⟩ ⟨rfl, rfl⟩
          have hi' : i < xs.length := by omega
          have hx : xs[i]? = some xs[i] := List.getElem?_eq_getElem hi'
          obtain ⟨d, hd, dv⟩ := Paired.get2 hp hx
          have gi : atI xs (i : Int) = some xs[i] := atI_nat hx
          simp only [Int.zero_add]
          tm_at "go"
          refine ixA (hs.same sG) gi ?_
          tm_at "go"
          refine i_titleD (dv.same sG) fun G3 s3 => ?_
          have S3 : Same H G3 := sG.trans s3
          cases c2 : nmV xs[i] with
          | false =>
            tm_at "go"
            refine k _ _ (by tm_at "same") (by tm_at "non") ?_
            rw [eL, outE, eG, drop_at hx, outA_no c2]
            exact ⟨_, by assumption, by tm_at "hpO"⟩
          | true =>
            obtain ⟨n, en⟩ := nmV_str c2
            rw [en] at gi hx c2
            tm_at "go"
            refine ixA (hs.same S3) gi ?_
            tm_at "go"
            refine slA (hs.same S3) hi' fun p G4 n4 s4 e4 => ?_
            rw [hu] at e4
            refine inLs e4 ?_
            have S4 : Same H G4 := S3.trans s4
            cases c3 : us.contains n with
            | true =>
              tm_at "go"
              refine k _ _ (by tm_at "same") (by tm_at "non") ?_
              have m3 : n ∈ us := by simpa using c3
              rw [eL, outE, eG, drop_at hx, outA_in c2 (by simp [m3])]
              exact ⟨_, by assumption, by tm_at "hpO"⟩
            | false =>
              have m3 : ¬ n ∈ us := by simpa using c3
              tm_at "go"
              refine ixA (hs.same S4) gi ?_
              tm_at "go"
              refine inLs (.inl (SqL.of (S4 _ _ hq))) ?_
              cases c4 : ns.contains n with
              | true =>
                tm_at "go"
                refine k _ _ (by tm_at "same") (by tm_at "non") ?_
                have m4 : n ∈ ns := by simpa using c4
                rw [eL, outE, eG, drop_at hx, outA_in c2 (by simp [m4])]
                exact ⟨_, by assumption, by tm_at "hpO"⟩
              | false =>
                have m4 : ¬ n ∈ ns := by simpa using c4
                tm_at "go"
                refine ⟨_, us ++ [n], rfl, S4, ?_, ?_⟩
                · rw [List.take_add_one, hx, hu, List.map_append]
                  rfl
                · rw [eG, drop_at hx, outA_go c2 (by simp [m3, m4]), List.reverse_append]
                  rfl
        · rintro σ G1 ⟨y2, us, rfl, sG, hu, eG⟩
          tm_at "go"
          refine k _ _ (by tm_at "same") (by tm_at "non") ?_
          rw [eL, outE, eG]
          simp only [Int.toNat_natCast, List.drop_length]
          exact (by assumption : _)
end

open Lend LamX NdefX SupX DicX
theorem memP {K : PySem.W.Frag} {H : Hp} {p : Addr} {l : List Str} {z : Str} {Q : VK} {c : Bool} (h : H p = some (.lst (l.map V.str))) (e : l.contains z = c) (q : Q (.bl c) H) : rIn K false (.str z) (.ref p) H Q := inLs (.inl (SqL.of h)) (e ▸ q)
theorem atS {l : List Str} {i : Nat} (h : i < l.length) : atI (l.map V.str) (i : Int) = some (.str l[i]) := atI_nat (by rw [List.getElem?_map, List.getElem?_eq_getElem h]; rfl)
section
variable {P : Program} {w : World} {K : PySem.W.Frag} {mg : Str → Option Value} {base : Heap} {Z : Fs}
def sp_object_due (K : PySem.W.Frag) (C : Addr) : Sp := fun vs H Q _ => ∃ (b p : Addr) (nm ov : V) (d : PyData) (xs : List V) (os : List (Option Str)) (lot : Option (List V)), vs = [nm, .ref p, ov] ∧ Dt K H b nm d ∧ SqL K H p xs ∧ Paired (Ofc K H C) xs os ∧ xs.length ≤ 8 ∧ LotV K H b ov lot ∧ ∀ (H' : Hp) (t : Addr), Same H H' → H t = none → WhyAt (wy (objE ko0 nm os lot false)) H' t → Q (.ref t) H'
theorem ok_object_due (T : Txt K w mg Z) : FnOk P w K mg base CX0 3 Z.a_law_object_due Z.d_law_object_due ["_law_title", "_law_values", "_law_lot"] (sp_object_due K Z.C_Piece) := by
  have G_law_is_title := ok_law_is_title (P := P) (base := base) T
  have G_law_outside_due := ok_outside_due (P := P) (base := base) T
  refine T.F_law_object_due.ok sc_law_object_due (fun vs H Q E h => ?_) (fun cdv A outer s H vs Q E hr h => ?_)
  · obtain ⟨b, p, nm, ov, d, xs, os, lot, rfl, _⟩ := h
    rfl
  · obtain ⟨b, p, nm, ov, d, xs, os, lot, rfl, hd, hs, hp, hl, hv, k⟩ := h
    have lo : xs.length = os.length := Paired.length hp
    refine ⟨_, (pss_cons (ps_if (pt_not (pt_val (pe_call G_law_is_title (hr.mono (by omega)) (by rfl) T.m_law_is_title T.F_law_is_title.kp T.b_law_is_title .nil pass0 (pa_cons (pv 0) pa_nil)))) (pss_one (ps_ret (pe_tup (pa_cons pe_str (pa_cons (pe_tup (pa_cons (pv 0) pa_nil)) pa_nil))))) pss_nil)
      (pss_cons (ps_for PassesOwn.never rfl (pi_range1 (by rfl) T.n_range (pa_cons (pe_callB (Go.c_len : CallR _ _ (Go.RLen K)) (by rfl) T.n_len boot_len (pa_cons (pv 1) pa_nil)) pa_nil)) (pg_name (i := 3) sc_law_object_due.nd rfl (Or.inl rfl)) (pss_one (ps_if (pt_not (pt_val (pe_callB (call_isi : CallR _ _ (rIsi K)) (by rfl) T.n_isinstance boot_isinstance (pa_cons (pe_ix (ix_list : IxR _ (rIxL K)) (pv 1) (pv 3) (fun _ _ => rfl)) (pa_cons (pe_glob (v := .ref Z.C_Piece) (by rfl) T.m_Piece rfl) pa_nil))))) (pss_one (ps_ret (pe_tup (pa_cons pe_str (pa_cons (pe_tup (pa_cons (pv 3) pa_nil)) pa_nil))))) pss_nil)))
      (pss_cons (ps_setLc (i := 4) (own := [("_law_one", 5)]) (g := gName 5) (tt := tYes) rfl sc_law_object_due.nd rfl rfl (sw_true rfl rfl rfl (by decide +kernel)) (pi_list (pv 1)) (blkOk_by (N := N_law_object_due) (sc := defScope s_law_object_due) (by decide +kernel)) (fun _ _ _ _ _ => pg_name (i := 5) sc_law_object_due.nd rfl (Or.inl rfl)) (fun _ _ _ _ _ => pts_nil) (fun _ _ _ _ _ => (DicX.pe_fldK (K := K) rfl (pv 5) rfl)))
      (pss_cons (ps_for PassesOwn.never rfl (pi_range1 (by rfl) T.n_range (pa_cons (pe_callB (Go.c_len : CallR _ _ (Go.RLen K)) (by rfl) T.n_len boot_len (pa_cons (pv 4) pa_nil)) pa_nil)) (pg_name (i := 3) sc_law_object_due.nd rfl (Or.inl rfl)) (pss_one (ps_if (pt_cmpR (op_in_seq : OpR _ _ (rIn K false)) (pe_ix (ix_list : IxR _ (rIxL K)) (pv 4) (pv 3) (fun _ _ => rfl)) (pe_slice (sl_list : SlR _ (rSlL K)) (pv 4) po_none (po_some (pv 3))) (by rfl)) (pss_one (ps_ret (pe_tup (pa_cons pe_str (pa_cons (pe_tup (pa_cons (pe_ix (ix_list : IxR _ (rIxL K)) (pv 4) (pv 3) (fun _ _ => rfl)) pa_nil)) pa_nil))))) pss_nil)))
      (pss_one (ps_ret (pe_call G_law_outside_due (hr.mono (by omega)) (by rfl) T.m_law_outside_due T.F_law_outside_due.kp T.b_law_outside_due .nil pass0 (pa_cons (pv 2) (pa_cons (pv 4) pa_nil))))))))), ?_⟩
    rw [show L2.start N_law_object_due [nm, V.ref p, ov] = [some (nm), some (V.ref p), some (ov), none, none, none] from rfl]
    try dsimp only [cxOf, Cx.nox]
    tm_at "go"
    refine i_titleD hd fun H1 s1 => ?_
    cases c : nmV nm with
    | false =>
      tm_at "go"
      refine k _ _ (by tm_at "same") (by tm_at "non") ?_
      rw [objE1 c]
      exact ⟨_, by assumption, by tm_at "hpO"⟩
    | true =>
      tm_at "go"
      refine Go.for_w walk_range (fun i σ H' => ∃ (yk : Option V), σ = [some nm, some (.ref p), some ov, yk, none, none] ∧ Same H H' ∧ ∀ j o, j < i → os[j]? = some o → o.isNone = false) ⟨_, rfl, s1, fun j o hj _ => absurd hj (Nat.not_lt_zero _)⟩ (fun _ _ _ _ _ => trivial) ?_ ?_
      · rintro i x σ G1 G2 hi ⟨yk, rfl, sG, hj⟩ ⟨rfl, rfl⟩
        have hi' : i < xs.length := by omega
        have hx : xs[i]? = some xs[i] := List.getElem?_eq_getElem hi'
        obtain ⟨o, ho, ov2⟩ := Paired.get2 hp hx
        have gi : atI xs (i : Int) = some xs[i] := atI_nat hx
        obtain ⟨t, ty, ki⟩ := (ov2.same sG).ty T.i_Piece.ins
        simp only [Int.zero_add]
        tm_at "go"
        refine Go.isi (.own _) ty ki ?_
        cases o with
        | some n =>
          tm_at "go"
          refine ⟨_, rfl, sG, fun j o' hj' ho' => ?_⟩
          rcases Nat.lt_succ_iff_lt_or_eq.mp hj' with h | rfl
          · exact hj j o' h ho'
          · rw [ho] at ho'
            cases ho'
            rfl
        | none =>
          tm_at "go"
          refine k _ _ (by tm_at "same") (by tm_at "non") ?_
          rw [objE2 c (findIdx_some ho rfl fun j y hj' hy' => hj j y hj' hy')]
          exact ⟨_, by assumption, by tm_at "hpO"⟩
      · rintro σ G1 ⟨yk, rfl, sG, hj⟩
        have none_ : os.findIdx? (fun o => o.isNone) = none := findIdx_none fun j y hj' hy' => hj j y (by omega) hy'
        have hN := ofc_all T.cl_Piece hp none_
        generalize hns : os.filterMap id = ns at hN
        have lN : xs.length = ns.length := Paired.length hN
        tm_at "go"
        refine Go.lc_w (walk_list (K := K) (xs := xs)) (fun L i H' => Same H H' ∧ H L = none ∧ H' L = some (.lst ((ns.take i).map V.str))) (by tm_at "wipe") ?_ ?_ ?_ ?_
        · intro L H2 n0 s2 e2
          exact ⟨sG.trans s2, Go.freeS sG n0, e2⟩
        · intro L i H2 hi ⟨s2, _⟩
          exact Go.lS s2 hs
        · rintro L i v H2 H3 hi ⟨s2, nL, e2⟩ ⟨rfl, hv⟩
          obtain ⟨n, hn, nm2⟩ := Paired.get2 hN hv
          tm_at "go"
          refine fldN (nm2.same s2) (fun Q q => ⟨_, rfl, q⟩) ?_
          refine Go.lcEnd e2 (Go.lt_line (by simp; omega)) fun H6 s6 e6 => ?_
          refine ⟨Go.Same.own s2 nL s6, nL, ?_⟩
          rw [e6, List.take_add_one, hn]
          simp
        · rintro L H2 ⟨s2, nL, e2⟩
          rw [lN, List.take_length] at e2
          tm_at "go"
          simp only [List.length_map]
          refine ⟨by omega, by omega, ?_⟩
          refine Go.for_w walk_range (fun i σ H' => ∃ (yk yo : Option V), σ = [some nm, some (.ref p), some ov, yk, some (.ref L), yo] ∧ Same H2 H' ∧ dupA [] ns = dupA (ns.take i).reverse (ns.drop i)) ⟨_, _, rfl, Same.refl _, rfl⟩ (fun _ _ _ _ _ => trivial) ?_ ?_
          · rintro i x σ G1 G2 hi ⟨yk, yo, rfl, sH, eG⟩ ⟨rfl, rfl⟩
            have hi' : i < ns.length := by omega
            have hx : ns[i]? = some ns[i] := List.getElem?_eq_getElem hi'
            have gi := atS hi'
            have e3 := sH _ _ e2
            simp only [Int.zero_add]
            tm_at "go"
            rename_i q G3 n3 s3 e4
            rw [cut_take (by rw [List.length_map]; omega), ← List.map_take] at e4
            cases c3 : (ns.take i).contains ns[i] with
            | true =>
              refine memP e4 c3 ?_
              have m3 : ns[i] ∈ (ns.take i).reverse := by simpa using c3
              tm_at "go"
              refine k _ _ (s2.trans (by tm_at "same")) (Go.freeS s2 (by tm_at "non")) ?_
              have hD : dupE ko0.d (os.filterMap id) = some (kDn ko0.d, [.str ns[i]]) := by rw [hns, dupE, eG, drop_at hx, dupA, if_pos m3]; rfl
              rw [objE4 c none_ (fun z => by omega) hD]
              exact ⟨_, by assumption, by tm_at "hpO"⟩
            | false =>
              refine memP e4 c3 ?_
              have m3 : ¬ ns[i] ∈ (ns.take i).reverse := by simpa using c3
              tm_at "go"
              refine ⟨_, _, rfl, by tm_at "same", ?_⟩
              rw [eG, drop_at hx, dupA, if_neg m3, take_rev hx]
          · rintro σ G1 ⟨yk, yo, rfl, sH, eG⟩
            have hD : dupE ko0.d (os.filterMap id) = none := by
              rw [hns, dupE, eG]
              simp only [Int.toNat_natCast, List.drop_length]
              rfl
            tm_at "go"
            refine ⟨b, L, ov, lot, ns, rfl, hv.same (s2.trans sH), sH _ _ e2, by omega, fun H' t s' n' wd => k H' t ((s2.trans sH).trans s') (Go.freeS (s2.trans sH) n') ?_⟩
            rw [objE_lot c none_ (by omega) hD, hns]
            exact wd
def sp_archive_due (K : PySem.W.Frag) (C : Addr) : Sp := fun vs H Q _ => ∃ (b p : Addr) (nm : V) (d : PyData) (xs : List V) (os : List (Option Str)), vs = [nm, .ref p] ∧ Dt K H b nm d ∧ SqL K H p xs ∧ Paired (Ofc K H C) xs os ∧ xs.length ≤ 4 ∧ ∀ (H' : Hp) (t : Addr), Same H H' → H t = none → WhyAt (wy (archE ko0 0 nm os)) H' t → Q (.ref t) H'
theorem ok_archive_due (T : Txt K w mg Z) : FnOk P w K mg base CX0 3 Z.a_law_archive_due Z.d_law_archive_due ["_law_title", "_law_values"] (sp_archive_due K Z.C_Object) := by
  have G_law_is_title := ok_law_is_title (P := P) (base := base) T
  refine T.F_law_archive_due.ok sc_law_archive_due (fun vs H Q E h => ?_) (fun cdv A outer s H vs Q E hr h => ?_)
  · obtain ⟨b, p, nm, d, xs, os, rfl, _⟩ := h
    rfl
  · obtain ⟨b, p, nm, d, xs, os, rfl, hd, hs, hp, hl, k⟩ := h
    have lo : xs.length = os.length := Paired.length hp
    refine ⟨_, (pss_cons (ps_if (pt_not (pt_val (pe_call G_law_is_title (hr.mono (by omega)) (by rfl) T.m_law_is_title T.F_law_is_title.kp T.b_law_is_title .nil pass0 (pa_cons (pv 0) pa_nil)))) (pss_one (ps_ret (pe_tup (pa_cons pe_str (pa_cons (pe_tup (pa_cons (pv 0) pa_nil)) pa_nil))))) pss_nil)
      (pss_cons (ps_for PassesOwn.never rfl (pi_range1 (by rfl) T.n_range (pa_cons (pe_callB (Go.c_len : CallR _ _ (Go.RLen K)) (by rfl) T.n_len boot_len (pa_cons (pv 1) pa_nil)) pa_nil)) (pg_name (i := 2) sc_law_archive_due.nd rfl (Or.inl rfl)) (pss_one (ps_if (pt_not (pt_val (pe_callB (call_isi : CallR _ _ (rIsi K)) (by rfl) T.n_isinstance boot_isinstance (pa_cons (pe_ix (ix_list : IxR _ (rIxL K)) (pv 1) (pv 2) (fun _ _ => rfl)) (pa_cons (pe_glob (v := .ref Z.C_Object) (by rfl) T.m_Object rfl) pa_nil))))) (pss_one (ps_ret (pe_tup (pa_cons pe_str (pa_cons (pe_tup (pa_cons (pv 2) pa_nil)) pa_nil))))) pss_nil)))
      (pss_cons (ps_setLc (i := 3) (own := [("_law_one", 4)]) (g := gName 4) (tt := tYes) rfl sc_law_archive_due.nd rfl rfl (sw_true rfl rfl rfl (by decide +kernel)) (pi_list (pv 1)) (blkOk_by (N := N_law_archive_due) (sc := defScope s_law_archive_due) (by decide +kernel)) (fun _ _ _ _ _ => pg_name (i := 4) sc_law_archive_due.nd rfl (Or.inl rfl)) (fun _ _ _ _ _ => pts_nil) (fun _ _ _ _ _ => (DicX.pe_fldK (K := K) rfl (pv 4) rfl)))
      (pss_cons (ps_for PassesOwn.never rfl (pi_range1 (by rfl) T.n_range (pa_cons (pe_callB (Go.c_len : CallR _ _ (Go.RLen K)) (by rfl) T.n_len boot_len (pa_cons (pv 3) pa_nil)) pa_nil)) (pg_name (i := 2) sc_law_archive_due.nd rfl (Or.inl rfl)) (pss_one (ps_if (pt_cmpR (op_in_seq : OpR _ _ (rIn K false)) (pe_ix (ix_list : IxR _ (rIxL K)) (pv 3) (pv 2) (fun _ _ => rfl)) (pe_slice (sl_list : SlR _ (rSlL K)) (pv 3) po_none (po_some (pv 2))) (by rfl)) (pss_one (ps_ret (pe_tup (pa_cons pe_str (pa_cons (pe_tup (pa_cons (pe_ix (ix_list : IxR _ (rIxL K)) (pv 3) (pv 2) (fun _ _ => rfl)) pa_nil)) pa_nil))))) pss_nil)))
      (pss_one (ps_ret (pe_tup (pa_cons pe_str (pa_cons pe_non pa_nil))))))))), ?_⟩
    rw [show L2.start N_law_archive_due [nm, V.ref p] = [some (nm), some (V.ref p), none, none, none] from rfl]
    try dsimp only [cxOf, Cx.nox]
    tm_at "go"
    refine i_titleD hd fun H1 s1 => ?_
    cases c : nmV nm with
    | false =>
      tm_at "go"
      refine k _ _ (by tm_at "same") (by tm_at "non") ?_
      rw [archE1 c]
      exact ⟨_, by assumption, by tm_at "hpO"⟩
    | true =>
      tm_at "go"
      refine Go.for_w walk_range (fun i σ H' => ∃ (yk : Option V), σ = [some nm, some (.ref p), yk, none, none] ∧ Same H H' ∧ ∀ j o, j < i → os[j]? = some o → o.isNone = false) ⟨_, rfl, s1, fun j o hj _ => absurd hj (Nat.not_lt_zero _)⟩ (fun _ _ _ _ _ => trivial) ?_ ?_
      · rintro i x σ G1 G2 hi ⟨yk, rfl, sG, hj⟩ ⟨rfl, rfl⟩
        have hi' : i < xs.length := by omega
        have hx : xs[i]? = some xs[i] := List.getElem?_eq_getElem hi'
        obtain ⟨o, ho, ov2⟩ := Paired.get2 hp hx
        have gi : atI xs (i : Int) = some xs[i] := atI_nat hx
        obtain ⟨t, ty, ki⟩ := (ov2.same sG).ty T.i_Object.ins
        simp only [Int.zero_add]
        tm_at "go"
        refine Go.isi (.own _) ty ki ?_
        cases o with
        | some n =>
          tm_at "go"
          refine ⟨_, rfl, sG, fun j o' hj' ho' => ?_⟩
          rcases Nat.lt_succ_iff_lt_or_eq.mp hj' with h | rfl
          · exact hj j o' h ho'
          · rw [ho] at ho'
            cases ho'
            rfl
        | none =>
          tm_at "go"
          refine k _ _ (by tm_at "same") (by tm_at "non") ?_
          rw [archE2 c (findIdx_some ho rfl fun j y hj' hy' => hj j y hj' hy')]
          exact ⟨_, by assumption, by tm_at "hpO"⟩
      · rintro σ G1 ⟨yk, rfl, sG, hj⟩
        have none_ : os.findIdx? (fun o => o.isNone) = none := findIdx_none fun j y hj' hy' => hj j y (by omega) hy'
        have hN := ofc_all T.cl_Object hp none_
        generalize hns : os.filterMap id = ns at hN
        have lN : xs.length = ns.length := Paired.length hN
        tm_at "go"
        refine Go.lc_w (walk_list (K := K) (xs := xs)) (fun L i H' => Same H H' ∧ H L = none ∧ H' L = some (.lst ((ns.take i).map V.str))) (by tm_at "wipe") ?_ ?_ ?_ ?_
        · intro L H2 n0 s2 e2
          exact ⟨sG.trans s2, Go.freeS sG n0, e2⟩
        · intro L i H2 hi ⟨s2, _⟩
          exact Go.lS s2 hs
        · rintro L i v H2 H3 hi ⟨s2, nL, e2⟩ ⟨rfl, hv⟩
          obtain ⟨n, hn, nm2⟩ := Paired.get2 hN hv
          tm_at "go"
          refine fldN (nm2.same s2) (fun Q q => ⟨_, rfl, q⟩) ?_
          refine Go.lcEnd e2 (Go.lt_line (by simp; omega)) fun H6 s6 e6 => ?_
          refine ⟨Go.Same.own s2 nL s6, nL, ?_⟩
          rw [e6, List.take_add_one, hn]
          simp
        · rintro L H2 ⟨s2, nL, e2⟩
          rw [lN, List.take_length] at e2
          tm_at "go"
          simp only [List.length_map]
          refine ⟨by omega, by omega, ?_⟩
          refine Go.for_w walk_range (fun i σ H' => ∃ (yk yo : Option V), σ = [some nm, some (.ref p), yk, some (.ref L), yo] ∧ Same H2 H' ∧ dupA [] ns = dupA (ns.take i).reverse (ns.drop i)) ⟨_, _, rfl, Same.refl _, rfl⟩ (fun _ _ _ _ _ => trivial) ?_ ?_
          · rintro i x σ G1 G2 hi ⟨yk, yo, rfl, sH, eG⟩ ⟨rfl, rfl⟩
            have hi' : i < ns.length := by omega
            have hx : ns[i]? = some ns[i] := List.getElem?_eq_getElem hi'
            have gi := atS hi'
            have e3 := sH _ _ e2
            simp only [Int.zero_add]
            tm_at "go"
            rename_i q G3 n3 s3 e4
            rw [cut_take (by rw [List.length_map]; omega), ← List.map_take] at e4
            cases c3 : (ns.take i).contains ns[i] with
            | true =>
              refine memP e4 c3 ?_
              have m3 : ns[i] ∈ (ns.take i).reverse := by simpa using c3
              tm_at "go"
              refine k _ _ (s2.trans (by tm_at "same")) (Go.freeS s2 (by tm_at "non")) ?_
              have hD : dupE ko0.d (os.filterMap id) = some (kDn ko0.d, [.str ns[i]]) := by rw [hns, dupE, eG, drop_at hx, dupA, if_pos m3]; rfl
              rw [archE4 c none_ (by omega), hD]
              exact ⟨_, by assumption, by tm_at "hpO"⟩
            | false =>
              refine memP e4 c3 ?_
              have m3 : ¬ ns[i] ∈ (ns.take i).reverse := by simpa using c3
              tm_at "go"
              refine ⟨_, _, rfl, by tm_at "same", ?_⟩
              rw [eG, drop_at hx, dupA, if_neg m3, take_rev hx]
          · rintro σ G1 ⟨yk, yo, rfl, sH, eG⟩
            have hD : dupE ko0.d (os.filterMap id) = none := by
              rw [hns, dupE, eG]
              simp only [Int.toNat_natCast, List.drop_length]
              rfl
            tm_at "go"
            refine k _ _ ((s2.trans sH).trans (by tm_at "same")) (Go.freeS (s2.trans sH) (by tm_at "non")) ?_
            rw [archE4 c none_ (by omega), hD]
            exact (by assumption : _)
end

open Lend LamX NdefX SupX DicX
/-! ### _law_small_piece -/
theorem strK_lit {z : Str} (h : (decide (z.cps.size ≤ 100000) && z.cps.toList.all fun c => decide (c < 1114112)) = true) : StrK z := by
  rw [Bool.and_eq_true] at h
  exact ⟨of_decide_eq_true h.1, fun c m => of_decide_eq_true (List.all_eq_true.mp h.2 c m)⟩
theorem flatK.str {z : Str} (h : StrK z) : flatK (.str z) := ⟨rfl, fun y e => by cases e; exact h⟩
theorem flatK.non : flatK .non := ⟨rfl, fun y e => nomatch e⟩
theorem flatK.int {i : Int} : flatK (.int i) := ⟨rfl, fun y e => nomatch e⟩
theorem flatK.bl {k : Bool} : flatK (.bl k) := ⟨rfl, fun y e => nomatch e⟩
def AppC (sp : Sp) (vs dvs : List V) (E : XK) (H : Hp) (Q : VK) : Prop := sp (vs ++ dvs) H Q E
theorem callD {sp : Sp} {dvs : List V} {E : XK} {t : TA} {σ : L2.St} {H : Hp} {Q : VK} (q : t σ H fun vs H1 => AppC sp vs dvs E H1 Q) : tCall sp dvs E t σ H Q := q
theorem okD {sp : Sp} {vs dvs ws : List V} {E : XK} {H : Hp} {Q : VK} (e : vs ++ dvs = ws) (q : sp ws H Q E) : AppC sp vs dvs E H Q := by
  subst e
  exact q
theorem mkPi {C : Addr} {sp : Sp} {dvs : List V} {E : XK} {t : TA} {σ : L2.St} {H : Hp} {Q : VK} (q : t σ H fun vs H1 => MkP sp C E (vs ++ dvs) H1 Q) : tMake C sp dvs E t σ H Q := q
local macro_rules | `(tactic| tm_at "sp") => `(tactic| first
  | with_reducible refine callD ?_
  | ((with_reducible refine' okD ?e ?_); (case e => (first | (simp only [List.drop_succ_cons, List.drop_zero, List.drop_nil, List.cons_append, List.nil_append, List.append_nil]; (first | done | rfl)) | rfl)))
  | with_reducible refine mkPi ?_
  | fail)
local macro_rules | `(tactic| tm_at "gv") => `(tactic| (refine' ⟨?d, ?e, fun h => ?s⟩; (case d => first | exact Dt.non | exact Dt.int _ | (refine Dt.str (strK_lit ?_); decide +kernel)); (case e => first | exact Nat.zero_le _ | decide +kernel); (case s => first | exact absurd h (by decide +kernel) | (refine' ⟨5000, .inl ⟨_, ?f, ?l⟩, Nat.le_refl _⟩; (case f => tm_at "flat"); (case l => decide +kernel)))))
def haltO : Option (List V) := some [.str "halt"]
theorem rowsE_none {k : Ks} {p : Str} {os : List (Option (List V))} (h : os.length ≤ 16) (a : os.all (rowO p) = true) : rowsE k p (some os) = none := by
  rw [rowsE_some, if_neg (by omega)]
  have z : os.findIdx? (fun o => !rowO p o) = none := by
    rw [List.findIdx?_eq_none_iff]
    intro o ho
    rw [List.all_eq_true.mp a o ho]
    rfl
  rw [z]
section
variable {P : Program} {w : World} {K : PySem.W.Frag} {mg : Str → Option Value} {base : Heap} {Z : Fs}
theorem i_piece {k : Ks} {C b : Addr} {H : Hp} {Q : VK} {E : XK} {n p r a s kp : V} {dn dp da ds : PyData} {N : Addr → Prop} {rr : Option (List (Option (List V)))}
    (gn : GV K H b n dn (nmV n)) (gp : GV K H b p dp (partD dp)) (ga : GV K H b a da (alV a)) (gs : GV K H b s ds (scopeD (strD dp) ds)) (hR : RowsV H N r rr) (h0 : pieceE k n p a s dp ds rr = none)
    (ok : ∀ (H' : Hp) (x dx : Addr) (fs : List (Str × V)), Same H H' → H x = none → H' x = some (.ins C dx fs) → fs.lookup ("name" : Str) = some n → Q (.ref x) H') :
    MkP (sp_init K C k) C E [n, p, r, a, s, kp] H Q := by
  intro x dx hx hd hne
  have s1 : Same H (upd (upd H dx (.own x)) x (.ins C dx [])) := new2 hx hd
  refine ⟨x, dx, b, n, p, r, a, s, kp, dn, dp, da, ds, N, rr, rfl, upd_same, gn.same s1, gp.same s1, ga.same s1, gs.same s1, hR.same s1, (fun e xs h => by rw [h0] at h; cases h), fun os h hrr H' q fs ys st e1 e2 e3 e4 e5 => ⟨rfl, ok H' x dx fs (fun u o e => st u o (ne_of_none e hx) (s1 u o e)) hx e1 e2⟩⟩
def sp_small (C : Addr) : Sp := fun vs H Q _ => ∃ n : Str, vs = [.str n] ∧ Nm n ∧ ∀ (H' : Hp) (x dx : Addr) (fs : List (Str × V)), Same H H' → H x = none → H' x = some (.ins C dx fs) → fs.lookup ("name" : Str) = some (.str n) → Q (.ref x) H'
theorem i_small {C : Addr} {n : Str} {H : Hp} {Q : VK} {E : XK} (hn : Nm n) (q : ∀ (H' : Hp) (x dx : Addr) (fs : List (Str × V)), Same H H' → H x = none → H' x = some (.ins C dx fs) → fs.lookup ("name" : Str) = some (.str n) → Q (.ref x) H') : sp_small C [.str n] H Q E := ⟨n, rfl, hn, q⟩
theorem ok_small_piece {k : Ks} (T : Txt K w mg Z) (L : Lg P K mg k) : FnOk P w K mg base (L2N.CX P w) 9 Z.a_law_small_piece Z.d_law_small_piece ["_law_title"] (sp_small Z.C_Piece) := by
  have G_Piece___init__ := ok_Piece_init (P := P) (base := base) T L
  refine LendN.okN T.F_law_small_piece sc_law_small_piece (fun vs H Q E h => ?_) (fun cdv A outer s H vs Q E hr h => ?_)
  · obtain ⟨n, rfl, _⟩ := h
    rfl
  · obtain ⟨n, rfl, hn, q⟩ := h
    have tk : L2N.Takes (cxOf (L2N.CX P w) P w K mg base N_law_small_piece "_law_small_piece" (defScope s_law_small_piece) Z.a_law_small_piece cdv A outer s H E) (fun cls d _ H => E cls d H) := L2N.takes_of (E₁ := fun e' s'' => L2N.CX P w outer H s E e' s'') rfl rfl rfl rfl
    refine ⟨_, (pss_one (ps_ret (pe_make T.mk_Piece G_Piece___init__ (hr.mono (by omega)) (by rfl) T.m_Piece (Classical.choose_spec T.d_Piece___init___4).2 (Classical.choose_spec T.d_Piece___init___4).1 (L2N.passes_call tk (fun _ _ _ _ h => h)) (pa_cons (pv 0) (pa_cons pe_str (pa_cons (pe_lst (pa_cons (pe_tup (pa_cons pe_str pa_nil)) pa_nil)) pa_nil)))))), ?_⟩
    rw [show L2.start N_law_small_piece [V.str n] = [some (V.str n)] from rfl]
    try dsimp only [cxOf, Cx.nox]
    tm_at "go"
    rename_i t G1 n1 s1 e1 r G2 n2 s2 e2
    have fHalt : ∀ x ∈ [V.str "halt"], flatK x := by tm_at "all" <;> exact flatK.str (strK_lit (by decide +kernel))
    have hr : RowsV G2 (fun _ => True) (.ref r) (some [haltO]) := .lst e2 trivial (Nat.le_of_ble_eq_true rfl) (.cons (F := RowV G2 (fun _ => True)) (a := .ref t) (.tup (s2 _ _ e1) (Nat.le_of_ble_eq_true rfl) fHalt) .nil)
    refine i_piece (b := 0) (dn := .str n) (dp := .str "code") (da := .int 1) (ds := .str "local") ⟨.str hn.strK, Nat.zero_le _, fun _ => hn.sho.shows⟩ (by tm_at "gv") (by tm_at "gv") (by tm_at "gv") hr (pieceE7 (nmV_of hn) (by decide +kernel) (rowsE_none (by decide +kernel) (by decide +kernel)) (by decide +kernel) (by decide +kernel) (by decide +kernel)) fun H' x dx fs s3 nx ex lx => ?_
    tm_at "go"
    exact q H' x dx fs ((s1.trans s2).trans s3) (Go.freeS (s1.trans s2) nx) ex lx
end
/-! ### the kinds of the law -/
def EK7 (k : Ko) (kb : Addr) : List EKind := [kNm k.n, kPc k.p, kMn k.m, kDn k.d, kOu k.o, kMb kb]
theorem ek_strK {k : Ko} {kb : Addr} : ∀ e ∈ EK7 k kb, StrK e.code := memc (show StrK "InvalidName" from strK_lit (by decide +kernel)) (memc (show StrK "InvalidPiece" from strK_lit (by decide +kernel)) (memc (show StrK "TooMany" from strK_lit (by decide +kernel)) (memc (show StrK "DuplicateName" from strK_lit (by decide +kernel)) (memc (show StrK "InvalidOutside" from strK_lit (by decide +kernel)) (memc (show StrK "InvalidMember" from strK_lit (by decide +kernel)) mem0)))))
theorem dup_rel (d d' : Addr) (ns : List Str) : (dupE d ns = none ∧ dupE d' ns = none) ∨ ∃ n, dupE d ns = some (kDn d, [.str n]) ∧ dupE d' ns = some (kDn d', [.str n]) ∧ n ∈ ns := by
  have key : ∀ (ns acc : List Str) (n : Str), dupA acc ns = some n → n ∈ ns := by
    intro ns
    induction ns with
    | nil => intro acc n h; cases h
    | cons m r ih =>
      intro acc n h
      unfold dupA at h
      split at h
      · cases h
        exact .head _
      · exact .tail _ (ih _ _ h)
  unfold dupE
  cases h : dupA [] ns with
  | none => exact .inl ⟨rfl, rfl⟩
  | some n => exact .inr ⟨n, rfl, rfl, key _ _ _ h⟩
theorem out_rel (o o' : Addr) (ns : List Str) (xs : List V) : (outE o ns xs = none ∧ outE o' ns xs = none) ∨ ∃ i : Nat, outE o ns xs = some (kOu o, [.int ((i : Nat) : Int)]) ∧ outE o' ns xs = some (kOu o', [.int ((i : Nat) : Int)]) := by
  unfold outE
  cases outA ns.reverse 0 xs with
  | none => exact .inl ⟨rfl, rfl⟩
  | some i => exact .inr ⟨i, rfl, rfl⟩
section
variable {k k' : Ko} {kb kb' : Addr} {nm : V} {os : List (Option Str)} {lot : Option (List V)} {wide : Bool}
/-- how an object's error is of any kinds' addresses: none, or one of these -/
theorem obj_rel (k k' : Ko) (kb : Addr) (nm : V) (os : List (Option Str)) (lot : Option (List V)) (wide : Bool) : (objE k nm os lot wide = none ∧ objE k' nm os lot wide = none) ∨ ∃ e e' xs, objE k nm os lot wide = some (e, xs) ∧ objE k' nm os lot wide = some (e', xs) ∧ e.code = e'.code ∧ e ∈ EK7 k kb ∧ xs.length = e.attrs.length ∧ (xs = [nm] ∨ (∃ i : Int, xs = [.int i]) ∨ ∃ n, n ∈ os.filterMap id ∧ xs = [.str n]) := by
  unfold objE
  split
  · exact .inr ⟨_, _, _, rfl, rfl, rfl, .head _, rfl, .inl rfl⟩
  · split
    · exact .inr ⟨_, _, _, rfl, rfl, rfl, .tail _ (.head _), rfl, .inr (.inl ⟨_, rfl⟩)⟩
    · split
      · exact .inr ⟨_, _, _, rfl, rfl, rfl, .tail _ (.tail _ (.head _)), rfl, .inr (.inl ⟨_, rfl⟩)⟩
      · rcases dup_rel k.d k'.d (os.filterMap id) with ⟨h, h'⟩ | ⟨n, h, h', m⟩
        · rw [h, h']
          dsimp only
          cases lot with
          | none => exact .inr ⟨_, _, _, rfl, rfl, rfl, .tail _ (.tail _ (.tail _ (.tail _ (.head _)))), rfl, .inr (.inl ⟨_, rfl⟩)⟩
          | some xs =>
            dsimp only
            split
            · exact .inr ⟨_, _, _, rfl, rfl, rfl, .tail _ (.tail _ (.head _)), rfl, .inr (.inl ⟨_, rfl⟩)⟩
            · rcases out_rel k.o k'.o (os.filterMap id) xs with ⟨g, g'⟩ | ⟨i, g, g'⟩
              · exact .inl ⟨g, g'⟩
              · exact .inr ⟨_, _, _, g, g', rfl, .tail _ (.tail _ (.tail _ (.tail _ (.head _)))), rfl, .inr (.inl ⟨_, rfl⟩)⟩
        · rw [h, h']
          exact .inr ⟨_, _, _, rfl, rfl, rfl, .tail _ (.tail _ (.tail _ (.head _))), rfl, .inr (.inr ⟨n, m, rfl⟩)⟩
theorem arch_rel (k k' : Ko) (kb kb' : Addr) (nm : V) (os : List (Option Str)) : (archE k kb nm os = none ∧ archE k' kb' nm os = none) ∨ ∃ e e' xs, archE k kb nm os = some (e, xs) ∧ archE k' kb' nm os = some (e', xs) ∧ e.code = e'.code ∧ e ∈ EK7 k kb ∧ xs.length = e.attrs.length ∧ (xs = [nm] ∨ (∃ i : Int, xs = [.int i]) ∨ ∃ n, n ∈ os.filterMap id ∧ xs = [.str n]) := by
  unfold archE
  split
  · exact .inr ⟨_, _, _, rfl, rfl, rfl, .head _, rfl, .inl rfl⟩
  · split
    · exact .inr ⟨_, _, _, rfl, rfl, rfl, .tail _ (.tail _ (.tail _ (.tail _ (.tail _ (.head _))))), rfl, .inr (.inl ⟨_, rfl⟩)⟩
    · split
      · exact .inr ⟨_, _, _, rfl, rfl, rfl, .tail _ (.tail _ (.head _)), rfl, .inr (.inl ⟨_, rfl⟩)⟩
      · rcases dup_rel k.d k'.d (os.filterMap id) with ⟨h, h'⟩ | ⟨n, h, h', m⟩
        · exact .inl ⟨h, h'⟩
        · exact .inr ⟨_, _, _, h, h', rfl, .tail _ (.tail _ (.tail _ (.head _))), rfl, .inr (.inr ⟨n, m, rfl⟩)⟩
theorem objE_wy : wy (objE k nm os lot wide) = wy (objE k' nm os lot wide) := by
  rcases obj_rel k k' 0 nm os lot wide with ⟨h, h'⟩ | ⟨e, e', xs, h, h', hc, _⟩
  · rw [h, h']
  · rw [h, h']
    simp [wy, hc]
theorem archE_wy : wy (archE k kb nm os) = wy (archE k' kb' nm os) := by
  rcases arch_rel k k' kb kb' nm os with ⟨h, h'⟩ | ⟨e, e', xs, h, h', hc, _⟩
  · rw [h, h']
  · rw [h, h']
    simp [wy, hc]
theorem objE_in : ∀ e xs, objE k nm os lot wide = some (e, xs) → e ∈ EK7 k kb ∧ xs.length = e.attrs.length := by
  intro e xs h0
  rcases obj_rel k k kb nm os lot wide with ⟨h, h'⟩ | ⟨e', _, xs', h, _, _, hm, hl, _⟩
  · rw [h] at h0; cases h0
  · rw [h] at h0; cases h0; exact ⟨hm, hl⟩
theorem archE_in : ∀ e xs, archE k kb nm os = some (e, xs) → e ∈ EK7 k kb ∧ xs.length = e.attrs.length := by
  intro e xs h0
  rcases arch_rel k k kb kb nm os with ⟨h, h'⟩ | ⟨e', _, xs', h, _, _, hm, hl, _⟩
  · rw [h] at h0; cases h0
  · rw [h] at h0; cases h0; exact ⟨hm, hl⟩
theorem whyD1 {K : PySem.W.Frag} {H : Hp} {b : Addr} {c : Str} {x : V} {d : PyData} (hc : StrK c) (h : Dt K H b x d) (q : dep d ≤ 1) : ∃ D, WhyD K H b (some (c, [x])) D ∧ dep D ≤ 3 := ⟨_, .er hc (Nat.le_of_ble_eq_true rfl) (.cons h .nil), by
  simp only [dep, depA]
  omega⟩
theorem any_whyD {K : PySem.W.Frag} {H : Hp} {b : Addr} {dn : PyData} {o : Option (EKind × List V)} (hn : Dt K H b nm dn) (en : dep dn ≤ 1) (hs : ∀ n ∈ os.filterMap id, StrK n) (r : o = none ∨ ∃ e xs, o = some (e, xs) ∧ StrK e.code ∧ (xs = [nm] ∨ (∃ i : Int, xs = [.int i]) ∨ ∃ n, n ∈ os.filterMap id ∧ xs = [.str n])) : ∃ D, WhyD K H b (wy o) D ∧ dep D ≤ 3 := by
  rcases r with rfl | ⟨e, xs, rfl, hc, rfl | ⟨i, rfl⟩ | ⟨n, m, rfl⟩⟩
  · exact ⟨_, .ok, by decide +kernel⟩
  · exact whyD1 hc hn en
  · exact whyD1 hc (.int _) (Nat.zero_le _)
  · exact whyD1 hc (.str (hs n m)) (Nat.zero_le _)
theorem objE_whyD {K : PySem.W.Frag} {H : Hp} {b : Addr} {dn : PyData} (hn : Dt K H b nm dn) (en : dep dn ≤ 1) (hs : ∀ n ∈ os.filterMap id, StrK n) : ∃ D, WhyD K H b (wy (objE k nm os lot wide)) D ∧ dep D ≤ 3 := by
  refine any_whyD hn en hs ?_
  rcases obj_rel k k 0 nm os lot wide with ⟨h, _⟩ | ⟨e, _, xs, h, _, _, hm, _, hx⟩
  · exact .inl h
  · exact .inr ⟨e, xs, h, ek_strK e hm, hx⟩
theorem archE_whyD {K : PySem.W.Frag} {H : Hp} {b : Addr} {dn : PyData} (hn : Dt K H b nm dn) (en : dep dn ≤ 1) (hs : ∀ n ∈ os.filterMap id, StrK n) : ∃ D, WhyD K H b (wy (archE k kb nm os)) D ∧ dep D ≤ 3 := by
  refine any_whyD hn en hs ?_
  rcases arch_rel k k kb kb nm os with ⟨h, _⟩ | ⟨e, _, xs, h, _, _, hm, _, hx⟩
  · exact .inl h
  · exact .inr ⟨e, xs, h, ek_strK e hm, hx⟩
end
section
variable {P : Program} {w : World} {K : PySem.W.Frag} {mg : Str → Option Value} {base : Heap} {Z : Fs}
theorem ok_law_field {k : Ko} {kb : Addr} (T : Txt K w mg Z) (L : La P K mg k kb) : HotP.FnHP P w K mg base C8.CX0 1 Z.a_law_field Z.d_law_field ["_law_e"] (sp_law_field K (EK7 k kb)) := by
  obtain ⟨oc, od, kV, doc, pm, an, cdv, ct, osl, e, lk, hcd⟩ := T.F_law_field.ex
  rw [e] at lk ⊢
  refine HotP.fnHP_of lk hcd sc_law_field (fun p vs H Q E h => ?_) (fun A outer s H vs Q E p hot hr h => ?_)
  · obtain ⟨kd, _, xs, d, _, rfl, _⟩ := h
    rfl
  · obtain ⟨kd, hk, xs, d, hl, rfl, he, kq⟩ := h
    rcases List.mem_cons.mp hk with rfl | hk
    · obtain ⟨f0, fd0, EX⟩ := L.L.n
      have n2 : PySem.W.findIn K (.ref k.n) "code" = some none := EX.ok.code
      obtain ⟨x, rfl⟩ : ∃ x, xs = [x] := by
        match xs, hl with
        | [x], _ => exact ⟨x, rfl⟩
      have n1 : PySem.W.findIn K (.ref k.n) "value" = some none := EX.ok.attr _ (.head _)
      have he : ErrP K H p k.n d [("code", .str "InvalidName"), ("value", x)] := he
      clear EX
      refine ⟨_, (pss_cons (ps_if (pt_cmpR (op_in_seq : OpR _ _ (rIn K false)) (HotP.pe_pinf (p := p) List.mem_cons_self (pv 0)) (pe_lst (pa_cons pe_str (pa_cons pe_str (pa_cons pe_str (pa_cons pe_str (pa_cons pe_str pa_nil)))))) (by rfl)) (pss_one (ps_ret (pe_tup (pa_cons (HotP.pe_pinf (p := p) List.mem_cons_self (pv 0)) pa_nil)))) pss_nil)
      (pss_cons (ps_if (pt_cmpR (op_in_seq : OpR _ _ (rIn K false)) (HotP.pe_pinf (p := p) List.mem_cons_self (pv 0)) (pe_lst (pa_cons pe_str (pa_cons pe_str pa_nil))) (by rfl)) (pss_one (ps_ret (pe_tup (pa_cons (HotP.pe_pinf (p := p) List.mem_cons_self (pv 0)) pa_nil)))) pss_nil)
      (pss_cons (ps_if (pt_cmpR op_eq (HotP.pe_pinf (p := p) List.mem_cons_self (pv 0)) pe_str (nomark _)) (pss_one (ps_ret (pe_tup (pa_cons (HotP.pe_pinf (p := p) List.mem_cons_self (pv 0)) (pa_cons (HotP.pe_pinf (p := p) List.mem_cons_self (pv 0)) (pa_cons (HotP.pe_pinf (p := p) List.mem_cons_self (pv 0)) pa_nil)))))) pss_nil)
      (pss_cons (ps_if (pt_cmpR op_eq (HotP.pe_pinf (p := p) List.mem_cons_self (pv 0)) pe_str (nomark _)) (pss_one (ps_ret (pe_tup (pa_cons (HotP.pe_pinf (p := p) List.mem_cons_self (pv 0)) (pa_cons (HotP.pe_pinf (p := p) List.mem_cons_self (pv 0)) pa_nil))))) pss_nil)
      (pss_cons (ps_if (pt_cmpR op_eq (HotP.pe_pinf (p := p) List.mem_cons_self (pv 0)) pe_str (nomark _)) (pss_one (ps_ret (pe_tup (pa_cons (HotP.pe_pinf (p := p) List.mem_cons_self (pv 0)) pa_nil)))) pss_nil)
      (pss_cons (ps_if (pt_cmpR op_eq (HotP.pe_pinf (p := p) List.mem_cons_self (pv 0)) pe_str (nomark _)) (pss_one (ps_ret (pe_tup (pa_cons (HotP.pe_pinf (p := p) List.mem_cons_self (pv 0)) pa_nil)))) pss_nil)
      (pss_cons (ps_if (pt_cmpR op_eq (HotP.pe_pinf (p := p) List.mem_cons_self (pv 0)) pe_str (nomark _)) (pss_one (ps_ret (pe_tup (pa_cons (HotP.pe_pinf (p := p) List.mem_cons_self (pv 0)) pa_nil)))) pss_nil)
      (pss_one (ps_ret (pe_ifExp (pt_cmpR op_eq (HotP.pe_pinf (p := p) List.mem_cons_self (pv 0)) pe_str (nomark _)) (pe_tup pa_nil) (pe_tup (pa_cons (HotP.pe_pinf (p := p) List.mem_cons_self (pv 0)) pa_nil)))))))))))), ?_⟩
      rw [show L2.start N_law_field [V.ref p.1] = [some (V.ref p.1)] from rfl]
      try dsimp only [cxOf, Cx.nox]
      tm_at "go"
      all_goals first
        | exact kq _ _ (by tm_at "same") (by tm_at "non") (by assumption)
        | exact absurd ‹Str.ofString "InvalidName" = _› (by decide +kernel)
    rcases List.mem_cons.mp hk with rfl | hk
    · obtain ⟨f0, fd0, EX⟩ := L.L.p
      have n2 : PySem.W.findIn K (.ref k.p) "code" = some none := EX.ok.code
      obtain ⟨x, rfl⟩ : ∃ x, xs = [x] := by
        match xs, hl with
        | [x], _ => exact ⟨x, rfl⟩
      have n1 : PySem.W.findIn K (.ref k.p) "at" = some none := EX.ok.attr _ (.head _)
      have he : ErrP K H p k.p d [("code", .str "InvalidPiece"), ("at", x)] := he
      clear EX
      refine ⟨_, (pss_cons (ps_if (pt_cmpR (op_in_seq : OpR _ _ (rIn K false)) (HotP.pe_pinf (p := p) List.mem_cons_self (pv 0)) (pe_lst (pa_cons pe_str (pa_cons pe_str (pa_cons pe_str (pa_cons pe_str (pa_cons pe_str pa_nil)))))) (by rfl)) (pss_one (ps_ret (pe_tup (pa_cons (HotP.pe_pinf (p := p) List.mem_cons_self (pv 0)) pa_nil)))) pss_nil)
      (pss_cons (ps_if (pt_cmpR (op_in_seq : OpR _ _ (rIn K false)) (HotP.pe_pinf (p := p) List.mem_cons_self (pv 0)) (pe_lst (pa_cons pe_str (pa_cons pe_str pa_nil))) (by rfl)) (pss_one (ps_ret (pe_tup (pa_cons (HotP.pe_pinf (p := p) List.mem_cons_self (pv 0)) pa_nil)))) pss_nil)
      (pss_cons (ps_if (pt_cmpR op_eq (HotP.pe_pinf (p := p) List.mem_cons_self (pv 0)) pe_str (nomark _)) (pss_one (ps_ret (pe_tup (pa_cons (HotP.pe_pinf (p := p) List.mem_cons_self (pv 0)) (pa_cons (HotP.pe_pinf (p := p) List.mem_cons_self (pv 0)) (pa_cons (HotP.pe_pinf (p := p) List.mem_cons_self (pv 0)) pa_nil)))))) pss_nil)
      (pss_cons (ps_if (pt_cmpR op_eq (HotP.pe_pinf (p := p) List.mem_cons_self (pv 0)) pe_str (nomark _)) (pss_one (ps_ret (pe_tup (pa_cons (HotP.pe_pinf (p := p) List.mem_cons_self (pv 0)) (pa_cons (HotP.pe_pinf (p := p) List.mem_cons_self (pv 0)) pa_nil))))) pss_nil)
      (pss_cons (ps_if (pt_cmpR op_eq (HotP.pe_pinf (p := p) List.mem_cons_self (pv 0)) pe_str (nomark _)) (pss_one (ps_ret (pe_tup (pa_cons (HotP.pe_pinf (p := p) List.mem_cons_self (pv 0)) pa_nil)))) pss_nil)
      (pss_cons (ps_if (pt_cmpR op_eq (HotP.pe_pinf (p := p) List.mem_cons_self (pv 0)) pe_str (nomark _)) (pss_one (ps_ret (pe_tup (pa_cons (HotP.pe_pinf (p := p) List.mem_cons_self (pv 0)) pa_nil)))) pss_nil)
      (pss_cons (ps_if (pt_cmpR op_eq (HotP.pe_pinf (p := p) List.mem_cons_self (pv 0)) pe_str (nomark _)) (pss_one (ps_ret (pe_tup (pa_cons (HotP.pe_pinf (p := p) List.mem_cons_self (pv 0)) pa_nil)))) pss_nil)
      (pss_one (ps_ret (pe_ifExp (pt_cmpR op_eq (HotP.pe_pinf (p := p) List.mem_cons_self (pv 0)) pe_str (nomark _)) (pe_tup pa_nil) (pe_tup (pa_cons (HotP.pe_pinf (p := p) List.mem_cons_self (pv 0)) pa_nil)))))))))))), ?_⟩
      rw [show L2.start N_law_field [V.ref p.1] = [some (V.ref p.1)] from rfl]
      try dsimp only [cxOf, Cx.nox]
      tm_at "go"
      refine inLst (b := true) (by tm_at "hpL") rfl (by decide +kernel) ?_
      tm_at "go"
      all_goals first
        | exact kq _ _ (by tm_at "same") (by tm_at "non") (by assumption)
        | exact absurd ‹Str.ofString "InvalidPiece" = _› (by decide +kernel)
    rcases List.mem_cons.mp hk with rfl | hk
    · obtain ⟨f0, fd0, EX⟩ := L.L.m
      have n2 : PySem.W.findIn K (.ref k.m) "code" = some none := EX.ok.code
      obtain ⟨x, rfl⟩ : ∃ x, xs = [x] := by
        match xs, hl with
        | [x], _ => exact ⟨x, rfl⟩
      have n1 : PySem.W.findIn K (.ref k.m) "most" = some none := EX.ok.attr _ (.head _)
      have he : ErrP K H p k.m d [("code", .str "TooMany"), ("most", x)] := he
      clear EX
      refine ⟨_, (pss_cons (ps_if (pt_cmpR (op_in_seq : OpR _ _ (rIn K false)) (HotP.pe_pinf (p := p) List.mem_cons_self (pv 0)) (pe_lst (pa_cons pe_str (pa_cons pe_str (pa_cons pe_str (pa_cons pe_str (pa_cons pe_str pa_nil)))))) (by rfl)) (pss_one (ps_ret (pe_tup (pa_cons (HotP.pe_pinf (p := p) List.mem_cons_self (pv 0)) pa_nil)))) pss_nil)
      (pss_cons (ps_if (pt_cmpR (op_in_seq : OpR _ _ (rIn K false)) (HotP.pe_pinf (p := p) List.mem_cons_self (pv 0)) (pe_lst (pa_cons pe_str (pa_cons pe_str pa_nil))) (by rfl)) (pss_one (ps_ret (pe_tup (pa_cons (HotP.pe_pinf (p := p) List.mem_cons_self (pv 0)) pa_nil)))) pss_nil)
      (pss_cons (ps_if (pt_cmpR op_eq (HotP.pe_pinf (p := p) List.mem_cons_self (pv 0)) pe_str (nomark _)) (pss_one (ps_ret (pe_tup (pa_cons (HotP.pe_pinf (p := p) List.mem_cons_self (pv 0)) (pa_cons (HotP.pe_pinf (p := p) List.mem_cons_self (pv 0)) (pa_cons (HotP.pe_pinf (p := p) List.mem_cons_self (pv 0)) pa_nil)))))) pss_nil)
      (pss_cons (ps_if (pt_cmpR op_eq (HotP.pe_pinf (p := p) List.mem_cons_self (pv 0)) pe_str (nomark _)) (pss_one (ps_ret (pe_tup (pa_cons (HotP.pe_pinf (p := p) List.mem_cons_self (pv 0)) (pa_cons (HotP.pe_pinf (p := p) List.mem_cons_self (pv 0)) pa_nil))))) pss_nil)
      (pss_cons (ps_if (pt_cmpR op_eq (HotP.pe_pinf (p := p) List.mem_cons_self (pv 0)) pe_str (nomark _)) (pss_one (ps_ret (pe_tup (pa_cons (HotP.pe_pinf (p := p) List.mem_cons_self (pv 0)) pa_nil)))) pss_nil)
      (pss_cons (ps_if (pt_cmpR op_eq (HotP.pe_pinf (p := p) List.mem_cons_self (pv 0)) pe_str (nomark _)) (pss_one (ps_ret (pe_tup (pa_cons (HotP.pe_pinf (p := p) List.mem_cons_self (pv 0)) pa_nil)))) pss_nil)
      (pss_cons (ps_if (pt_cmpR op_eq (HotP.pe_pinf (p := p) List.mem_cons_self (pv 0)) pe_str (nomark _)) (pss_one (ps_ret (pe_tup (pa_cons (HotP.pe_pinf (p := p) List.mem_cons_self (pv 0)) pa_nil)))) pss_nil)
      (pss_one (ps_ret (pe_ifExp (pt_cmpR op_eq (HotP.pe_pinf (p := p) List.mem_cons_self (pv 0)) pe_str (nomark _)) (pe_tup pa_nil) (pe_tup (pa_cons (HotP.pe_pinf (p := p) List.mem_cons_self (pv 0)) pa_nil)))))))))))), ?_⟩
      rw [show L2.start N_law_field [V.ref p.1] = [some (V.ref p.1)] from rfl]
      try dsimp only [cxOf, Cx.nox]
      tm_at "go"
      all_goals first
        | exact kq _ _ (by tm_at "same") (by tm_at "non") (by assumption)
        | exact absurd ‹Str.ofString "TooMany" = _› (by decide +kernel)
    rcases List.mem_cons.mp hk with rfl | hk
    · obtain ⟨f0, fd0, EX⟩ := L.L.L.d
      have n2 : PySem.W.findIn K (.ref k.d) "code" = some none := EX.ok.code
      obtain ⟨x, rfl⟩ : ∃ x, xs = [x] := by
        match xs, hl with
        | [x], _ => exact ⟨x, rfl⟩
      have n1 : PySem.W.findIn K (.ref k.d) "name" = some none := EX.ok.attr _ (.head _)
      have he : ErrP K H p k.d d [("code", .str "DuplicateName"), ("name", x)] := he
      clear EX
      refine ⟨_, (pss_cons (ps_if (pt_cmpR (op_in_seq : OpR _ _ (rIn K false)) (HotP.pe_pinf (p := p) List.mem_cons_self (pv 0)) (pe_lst (pa_cons pe_str (pa_cons pe_str (pa_cons pe_str (pa_cons pe_str (pa_cons pe_str pa_nil)))))) (by rfl)) (pss_one (ps_ret (pe_tup (pa_cons (HotP.pe_pinf (p := p) List.mem_cons_self (pv 0)) pa_nil)))) pss_nil)
      (pss_cons (ps_if (pt_cmpR (op_in_seq : OpR _ _ (rIn K false)) (HotP.pe_pinf (p := p) List.mem_cons_self (pv 0)) (pe_lst (pa_cons pe_str (pa_cons pe_str pa_nil))) (by rfl)) (pss_one (ps_ret (pe_tup (pa_cons (HotP.pe_pinf (p := p) List.mem_cons_self (pv 0)) pa_nil)))) pss_nil)
      (pss_cons (ps_if (pt_cmpR op_eq (HotP.pe_pinf (p := p) List.mem_cons_self (pv 0)) pe_str (nomark _)) (pss_one (ps_ret (pe_tup (pa_cons (HotP.pe_pinf (p := p) List.mem_cons_self (pv 0)) (pa_cons (HotP.pe_pinf (p := p) List.mem_cons_self (pv 0)) (pa_cons (HotP.pe_pinf (p := p) List.mem_cons_self (pv 0)) pa_nil)))))) pss_nil)
      (pss_cons (ps_if (pt_cmpR op_eq (HotP.pe_pinf (p := p) List.mem_cons_self (pv 0)) pe_str (nomark _)) (pss_one (ps_ret (pe_tup (pa_cons (HotP.pe_pinf (p := p) List.mem_cons_self (pv 0)) (pa_cons (HotP.pe_pinf (p := p) List.mem_cons_self (pv 0)) pa_nil))))) pss_nil)
      (pss_cons (ps_if (pt_cmpR op_eq (HotP.pe_pinf (p := p) List.mem_cons_self (pv 0)) pe_str (nomark _)) (pss_one (ps_ret (pe_tup (pa_cons (HotP.pe_pinf (p := p) List.mem_cons_self (pv 0)) pa_nil)))) pss_nil)
      (pss_cons (ps_if (pt_cmpR op_eq (HotP.pe_pinf (p := p) List.mem_cons_self (pv 0)) pe_str (nomark _)) (pss_one (ps_ret (pe_tup (pa_cons (HotP.pe_pinf (p := p) List.mem_cons_self (pv 0)) pa_nil)))) pss_nil)
      (pss_cons (ps_if (pt_cmpR op_eq (HotP.pe_pinf (p := p) List.mem_cons_self (pv 0)) pe_str (nomark _)) (pss_one (ps_ret (pe_tup (pa_cons (HotP.pe_pinf (p := p) List.mem_cons_self (pv 0)) pa_nil)))) pss_nil)
      (pss_one (ps_ret (pe_ifExp (pt_cmpR op_eq (HotP.pe_pinf (p := p) List.mem_cons_self (pv 0)) pe_str (nomark _)) (pe_tup pa_nil) (pe_tup (pa_cons (HotP.pe_pinf (p := p) List.mem_cons_self (pv 0)) pa_nil)))))))))))), ?_⟩
      rw [show L2.start N_law_field [V.ref p.1] = [some (V.ref p.1)] from rfl]
      try dsimp only [cxOf, Cx.nox]
      tm_at "go"
      refine inLst (b := true) (by tm_at "hpL") rfl (by decide +kernel) ?_
      tm_at "go"
      all_goals first
        | exact kq _ _ (by tm_at "same") (by tm_at "non") (by assumption)
        | exact absurd ‹Str.ofString "DuplicateName" = _› (by decide +kernel)
    rcases List.mem_cons.mp hk with rfl | hk
    · obtain ⟨f0, fd0, EX⟩ := L.L.L.o
      have n2 : PySem.W.findIn K (.ref k.o) "code" = some none := EX.ok.code
      obtain ⟨x, rfl⟩ : ∃ x, xs = [x] := by
        match xs, hl with
        | [x], _ => exact ⟨x, rfl⟩
      have n1 : PySem.W.findIn K (.ref k.o) "at" = some none := EX.ok.attr _ (.head _)
      have he : ErrP K H p k.o d [("code", .str "InvalidOutside"), ("at", x)] := he
      clear EX
      refine ⟨_, (pss_cons (ps_if (pt_cmpR (op_in_seq : OpR _ _ (rIn K false)) (HotP.pe_pinf (p := p) List.mem_cons_self (pv 0)) (pe_lst (pa_cons pe_str (pa_cons pe_str (pa_cons pe_str (pa_cons pe_str (pa_cons pe_str pa_nil)))))) (by rfl)) (pss_one (ps_ret (pe_tup (pa_cons (HotP.pe_pinf (p := p) List.mem_cons_self (pv 0)) pa_nil)))) pss_nil)
      (pss_cons (ps_if (pt_cmpR (op_in_seq : OpR _ _ (rIn K false)) (HotP.pe_pinf (p := p) List.mem_cons_self (pv 0)) (pe_lst (pa_cons pe_str (pa_cons pe_str pa_nil))) (by rfl)) (pss_one (ps_ret (pe_tup (pa_cons (HotP.pe_pinf (p := p) List.mem_cons_self (pv 0)) pa_nil)))) pss_nil)
      (pss_cons (ps_if (pt_cmpR op_eq (HotP.pe_pinf (p := p) List.mem_cons_self (pv 0)) pe_str (nomark _)) (pss_one (ps_ret (pe_tup (pa_cons (HotP.pe_pinf (p := p) List.mem_cons_self (pv 0)) (pa_cons (HotP.pe_pinf (p := p) List.mem_cons_self (pv 0)) (pa_cons (HotP.pe_pinf (p := p) List.mem_cons_self (pv 0)) pa_nil)))))) pss_nil)
      (pss_cons (ps_if (pt_cmpR op_eq (HotP.pe_pinf (p := p) List.mem_cons_self (pv 0)) pe_str (nomark _)) (pss_one (ps_ret (pe_tup (pa_cons (HotP.pe_pinf (p := p) List.mem_cons_self (pv 0)) (pa_cons (HotP.pe_pinf (p := p) List.mem_cons_self (pv 0)) pa_nil))))) pss_nil)
      (pss_cons (ps_if (pt_cmpR op_eq (HotP.pe_pinf (p := p) List.mem_cons_self (pv 0)) pe_str (nomark _)) (pss_one (ps_ret (pe_tup (pa_cons (HotP.pe_pinf (p := p) List.mem_cons_self (pv 0)) pa_nil)))) pss_nil)
      (pss_cons (ps_if (pt_cmpR op_eq (HotP.pe_pinf (p := p) List.mem_cons_self (pv 0)) pe_str (nomark _)) (pss_one (ps_ret (pe_tup (pa_cons (HotP.pe_pinf (p := p) List.mem_cons_self (pv 0)) pa_nil)))) pss_nil)
      (pss_cons (ps_if (pt_cmpR op_eq (HotP.pe_pinf (p := p) List.mem_cons_self (pv 0)) pe_str (nomark _)) (pss_one (ps_ret (pe_tup (pa_cons (HotP.pe_pinf (p := p) List.mem_cons_self (pv 0)) pa_nil)))) pss_nil)
      (pss_one (ps_ret (pe_ifExp (pt_cmpR op_eq (HotP.pe_pinf (p := p) List.mem_cons_self (pv 0)) pe_str (nomark _)) (pe_tup pa_nil) (pe_tup (pa_cons (HotP.pe_pinf (p := p) List.mem_cons_self (pv 0)) pa_nil)))))))))))), ?_⟩
      rw [show L2.start N_law_field [V.ref p.1] = [some (V.ref p.1)] from rfl]
      try dsimp only [cxOf, Cx.nox]
      tm_at "go"
      refine inLst (b := true) (by tm_at "hpL") rfl (by decide +kernel) ?_
      tm_at "go"
      all_goals first
        | exact kq _ _ (by tm_at "same") (by tm_at "non") (by assumption)
        | exact absurd ‹Str.ofString "InvalidOutside" = _› (by decide +kernel)
    rcases List.mem_cons.mp hk with rfl | hk
    · obtain ⟨f0, fd0, EX⟩ := L.b
      have n2 : PySem.W.findIn K (.ref kb) "code" = some none := EX.ok.code
      obtain ⟨x, rfl⟩ : ∃ x, xs = [x] := by
        match xs, hl with
        | [x], _ => exact ⟨x, rfl⟩
      have n1 : PySem.W.findIn K (.ref kb) "at" = some none := EX.ok.attr _ (.head _)
      have he : ErrP K H p kb d [("code", .str "InvalidMember"), ("at", x)] := he
      clear EX
      refine ⟨_, (pss_cons (ps_if (pt_cmpR (op_in_seq : OpR _ _ (rIn K false)) (HotP.pe_pinf (p := p) List.mem_cons_self (pv 0)) (pe_lst (pa_cons pe_str (pa_cons pe_str (pa_cons pe_str (pa_cons pe_str (pa_cons pe_str pa_nil)))))) (by rfl)) (pss_one (ps_ret (pe_tup (pa_cons (HotP.pe_pinf (p := p) List.mem_cons_self (pv 0)) pa_nil)))) pss_nil)
      (pss_cons (ps_if (pt_cmpR (op_in_seq : OpR _ _ (rIn K false)) (HotP.pe_pinf (p := p) List.mem_cons_self (pv 0)) (pe_lst (pa_cons pe_str (pa_cons pe_str pa_nil))) (by rfl)) (pss_one (ps_ret (pe_tup (pa_cons (HotP.pe_pinf (p := p) List.mem_cons_self (pv 0)) pa_nil)))) pss_nil)
      (pss_cons (ps_if (pt_cmpR op_eq (HotP.pe_pinf (p := p) List.mem_cons_self (pv 0)) pe_str (nomark _)) (pss_one (ps_ret (pe_tup (pa_cons (HotP.pe_pinf (p := p) List.mem_cons_self (pv 0)) (pa_cons (HotP.pe_pinf (p := p) List.mem_cons_self (pv 0)) (pa_cons (HotP.pe_pinf (p := p) List.mem_cons_self (pv 0)) pa_nil)))))) pss_nil)
      (pss_cons (ps_if (pt_cmpR op_eq (HotP.pe_pinf (p := p) List.mem_cons_self (pv 0)) pe_str (nomark _)) (pss_one (ps_ret (pe_tup (pa_cons (HotP.pe_pinf (p := p) List.mem_cons_self (pv 0)) (pa_cons (HotP.pe_pinf (p := p) List.mem_cons_self (pv 0)) pa_nil))))) pss_nil)
      (pss_cons (ps_if (pt_cmpR op_eq (HotP.pe_pinf (p := p) List.mem_cons_self (pv 0)) pe_str (nomark _)) (pss_one (ps_ret (pe_tup (pa_cons (HotP.pe_pinf (p := p) List.mem_cons_self (pv 0)) pa_nil)))) pss_nil)
      (pss_cons (ps_if (pt_cmpR op_eq (HotP.pe_pinf (p := p) List.mem_cons_self (pv 0)) pe_str (nomark _)) (pss_one (ps_ret (pe_tup (pa_cons (HotP.pe_pinf (p := p) List.mem_cons_self (pv 0)) pa_nil)))) pss_nil)
      (pss_cons (ps_if (pt_cmpR op_eq (HotP.pe_pinf (p := p) List.mem_cons_self (pv 0)) pe_str (nomark _)) (pss_one (ps_ret (pe_tup (pa_cons (HotP.pe_pinf (p := p) List.mem_cons_self (pv 0)) pa_nil)))) pss_nil)
      (pss_one (ps_ret (pe_ifExp (pt_cmpR op_eq (HotP.pe_pinf (p := p) List.mem_cons_self (pv 0)) pe_str (nomark _)) (pe_tup pa_nil) (pe_tup (pa_cons (HotP.pe_pinf (p := p) List.mem_cons_self (pv 0)) pa_nil)))))))))))), ?_⟩
      rw [show L2.start N_law_field [V.ref p.1] = [some (V.ref p.1)] from rfl]
      try dsimp only [cxOf, Cx.nox]
      tm_at "go"
      refine inLst (b := true) (by tm_at "hpL") rfl (by decide +kernel) ?_
      tm_at "go"
      all_goals first
        | exact kq _ _ (by tm_at "same") (by tm_at "non") (by assumption)
        | exact absurd ‹Str.ofString "InvalidMember" = _› (by decide +kernel)
    cases hk
theorem ok_whys7 {k : Ko} {kb : Addr} (T : Txt K w mg Z) (L : La P K mg k kb) : FnOk P w K mg base CX0 17 Z.a_law_whys Z.d_law_whys ["_law_asks"] (sp_law_whys P w K mg base (EK7 k kb) 14) := by
  obtain ⟨f0, fd0, E0⟩ := L.L.n
  obtain ⟨f1, fd1, E1⟩ := L.L.p
  obtain ⟨f2, fd2, E2⟩ := L.L.m
  obtain ⟨f3, fd3, E3⟩ := L.L.L.d
  obtain ⟨f4, fd4, E4⟩ := L.L.L.o
  obtain ⟨f5, fd5, E5⟩ := L.b
  have EO : ∀ e ∈ EK7 k kb, KindOk K mg e := memc E0.ok (memc E1.ok (memc E2.ok (memc E3.ok (memc E4.ok (memc E5.ok mem0)))))
  have ne0 : ∀ e ∈ EK7 k kb, e.code ≠ "" := memc (show ("InvalidName" : Str) ≠ "" by decide +kernel) (memc (show ("InvalidPiece" : Str) ≠ "" by decide +kernel) (memc (show ("TooMany" : Str) ≠ "" by decide +kernel) (memc (show ("DuplicateName" : Str) ≠ "" by decide +kernel) (memc (show ("InvalidOutside" : Str) ≠ "" by decide +kernel) (memc (show ("InvalidMember" : Str) ≠ "" by decide +kernel) mem0)))))
  obtain ⟨cI, cM, mI, mM, _⟩ := E0.ok.exm
  exact ok_law_whys (P := P) (base := base) (k := 14) T (by omega) EO ne0 mI mM (ok_law_field T L)
end

open Lend LamX NdefX SupX DicX
/-! ### Object.with_piece -/
/-- where a piece of that name stands -/
def wpi (ns : List Str) : Option Str → Option Nat
  | none => none
  | some m => ns.findIdx? fun y => decide (y = m)
def wpl {α : Type} (zs : List α) (z : α) : Option Nat → List α
  | some i => zs.set i z
  | none => zs ++ [z]
theorem Paired.wpl {α β : Type} {R : α → β → Prop} {x : α} {y : β} : ∀ {xs : List α} {ys : List β} (i : Option Nat), Paired R xs ys → R x y → Paired R (wpl xs x i) (wpl ys y i)
  | _, _, none, .nil, h => .cons h .nil
  | _, _, none, .cons r t, h => .cons r (Paired.wpl none t h)
  | _, _, some _, .nil, _ => .nil
  | _, _, some 0, .cons _ t, h => .cons h t
  | _, _, some (i + 1), .cons r t, h => .cons r (Paired.wpl (some i) t h)
theorem wpl_len {α : Type} {zs : List α} {z : α} {i : Option Nat} : (wpl zs z i).length ≤ zs.length + 1 := by
  cases i with
  | none => simp [wpl]
  | some i => simp [wpl]
theorem nmd_all {K : PySem.W.Frag} {H : Hp} {C : Addr} (c : Cls K C) : ∀ {xs : List V} {ns : List Str}, Paired (Ofc K H C) xs (ns.map some) → Paired (Nmd K H) xs ns
  | _, [], .nil => .nil
  | _, _ :: _, .cons r t => .cons (r.nmd c) (nmd_all c t)
section
variable {P : Program} {w : World} {K : PySem.W.Frag} {mg : Str → Option Value} {base : Heap} {Z : Fs}
def sp_with (K : PySem.W.Frag) (C CP : Addr) (k : Ko) : Sp := fun vs H Q E => ∃ (b x q1 q2 : Addr) (n : Str) (xs ys : List V) (ds : List PyData) (ns : List Str) (v : V) (o : Option Str), vs = [.ref x, v] ∧ Ob H C x q1 q2 (.str n) xs ys ∧ Nm n ∧ Paired (Ofc K H CP) xs (ns.map some) ∧ xs.length ≤ 50 ∧ Paired (Dt K H b) ys ds ∧ ys.length ≤ 100 ∧ Ofc K H CP v o ∧
  (∀ e zs, objE k (.str n) (wpl (ns.map some) o (wpi ns o)) (some ys) false = some (e, zs) → ∀ d H', ErrAt H H' d e zs → E (.ref e.D) (some d) H') ∧
  (objE k (.str n) (wpl (ns.map some) o (wpi ns o)) (some ys) false = none → ∀ (H' : Hp) (x' p1 p2 : Addr), Same H H' → H x' = none → H p1 = none → H p2 = none → Ob H' C x' p1 p2 (.str n) (wpl xs v (wpi ns o)) ys → Q (.ref x') H')
theorem ok_with_piece {k : Ko} (T : Txt K w mg Z) (L : Lo P K mg k) : FnOk P w K mg base (L2N.CX P w) 10 Z.a_Object_with_piece Z.d_Object_with_piece ["self", "piece"] (sp_with K Z.C_Object Z.C_Piece k) := by
  have G_names := ok_names (P := P) (base := base) T
  have G_Object___contains__ := ok_Object_has (P := P) (base := base) T
  have G_Object___init__W := ok_ObjectW (base := base) T L
  refine LendN.okN T.F_Object_with_piece sc_Object_with_piece (fun vs H Q E h => ?_) (fun cdv A outer s H vs Q E hr h => ?_)
  · obtain ⟨b, x, q1, q2, n, xs, ys, ds, ns, v, o, rfl, _⟩ := h
    rfl
  · obtain ⟨b, x, q1, q2, n, xs, ys, ds, ns, v, o, rfl, hO, hn, hp, hl, hd, hl2, hv, er, ok⟩ := h
    obtain ⟨dx, fs, hx, of⟩ := hO.ex
    have l1 := hO.l1
    have l2 := hO.l2
    have lo : xs.length = ns.length := by rw [Paired.length hp, List.length_map]
    have tk : L2N.Takes (cxOf (L2N.CX P w) P w K mg base N_Object_with_piece "Object.with_piece" (defScope s_Object_with_piece) Z.a_Object_with_piece cdv A outer s H E) (fun cls d _ H => E cls d H) := L2N.takes_of (E₁ := fun e' s'' => L2N.CX P w outer H s E e' s'') rfl rfl rfl rfl
    refine ⟨_, (pss_cons (ps_set (i := 2) sc_Object_with_piece.nd rfl (Or.inl rfl) (pe_callTy Go.c_list (by rfl) T.n_list boot_list (pa_cons (pe_fld (pv 0) rfl) pa_nil)))
      (pss_cons (ps_if (PW.pt (pw_and (pt_val (pe_callB (call_isi : CallR _ _ (rIsi K)) (by rfl) T.n_isinstance boot_isinstance (pa_cons (pv 1) (pa_cons (pe_glob (v := .ref Z.C_Piece) (by rfl) T.m_Piece rfl) pa_nil)))) (pw_and1 (pt_cmpR (op_inO G_Object___contains__ (hr.mono (by omega)) T.S_Object___contains__ T.b_Object___contains__ pass0) (pe_fld (pv 1) rfl) (pv 0) (by rfl))))) (pss_one (ps_asg (pv 1) (pg_sub (pv 2) (pe_bm PySem.F.plainAttrs_list PySem.F.slot_list_index PySem.F.type_list_index (mt_index : MtR _ _ (rIndex K)) (pe_call G_names (hr.mono (by omega)) (by rfl) T.m_names T.F_names.kp T.b_names .nil pass0 (pa_cons (pv 2) pa_nil)) (pa_cons (pe_fld (pv 1) rfl) pa_nil)) set_list))) (pss_one (ps_expr (pe_bm PySem.F.plainAttrs_list PySem.F.slot_list_append PySem.F.type_list_append mt_append (pv 2) (pa_cons (pv 1) pa_nil)))))
      (pss_one (ps_ret (StkX.pe_makeRWS T.mk_Object G_Object___init__W (hr.mono (by omega)) (by rfl) T.m_Object (L2N.passes_call tk (fun _ _ _ _ h => h)) (pa_cons (pe_fld (pv 0) rfl) (StX.pa_star (pv 2) pa_nil)) (pk_cons (pe_fld (pv 0) rfl) pk_nil)))))), ?_⟩
    rw [show L2.start N_Object_with_piece [V.ref x, v] = [some (V.ref x), some (v), none] from rfl]
    try dsimp only [cxOf, Cx.nox]
    tm_at "go"
    refine ⟨.ref x, rfl, x, _, dx, _, .ref q1, rfl, hx, T.cl_Object, T.n_Object__pieces, of.ps, ?_⟩
    tm_at "go"
    rename_i p H1 n1 s1 e1
    obtain ⟨t, ty, ki⟩ := (hv.same s1).ty T.i_Piece.ins
    refine Go.isi (.own _) ty ki ?_
    have npq : ∀ a u, H a = some u → a ≠ p := fun a u h => ne_of_none h n1
    -- the object made of the list at p
    have fin : ∀ G : Hp, Same H G → G p = some (.lst (wpl xs v (wpi ns o))) → StkX.tMakeRW Z.C_Object (fun ws z => StkX.Rest 2 (sp_objI K Z.C_Object Z.C_Piece k) ws z) E (tCons (tFld K (tVar 0) "name") (StX.tStar K (tVar 2) tNil)) (tCons (tFld K (tVar 0) "_foreign") tNil) [some (.ref x), some v, some (.ref p)] G Q := by
      intro G sG eG
      tm_at "go"
      refine ⟨.ref x, rfl, x, _, dx, _, .str n, rfl, sG _ _ hx, T.cl_Object, T.n_Object_name, of.name, ?_⟩
      tm_at "go"
      refine ⟨.ref x, rfl, x, _, dx, _, .ref q2, rfl, sG _ _ hx, T.cl_Object, T.n_Object__foreign, of.os, ?_⟩
      tm_at "go"
      rw [List.append_nil]
      refine i_object (b := b) (d := .str n) (os := wpl (ns.map some) o (wpi ns o)) (lot := some ys) (.str hn.strK) (fun c => by rw [nmV_of hn] at c; cases c) (Paired.mapP (Paired.wpl _ hp hv) fun _ _ e => e.same sG) (by have := wpl_len (zs := xs) (z := v) (i := wpi ns o); omega) (.seq (.inl (SqL.of (sG _ _ l2))) (Paired.mapP hd fun _ _ e => e.same sG) hl2)
        (fun e zs h d H' ea => er e zs h d H' ⟨Go.freeS sG ea.new, sG.trans ea.same, ea.at_⟩) fun zs h hz H' x' dx' p1 p2 fs' s' nx n1 n2 ex _ of' f1 f2 => ?_
      cases hz
      exact ok h H' x' p1 p2 (sG.trans s') (Go.freeS sG nx) (Go.freeS sG n1) (Go.freeS sG n2) ⟨⟨dx', fs', ex, of'⟩, f1, f2⟩
    have S1 : Same H H1 := s1
    have app : ∀ G : Hp, Same H G → G p = some (.lst xs) → wpi ns o = none → tDrop (tBM K "list" rAppend (tVar 2) (tCons (tVar 1) tNil)) { nx := tRet (StkX.tMakeRW Z.C_Object (StkX.Rest 2 (sp_objI K Z.C_Object Z.C_Piece k)) E (tCons (tFld K (tVar 0) "name") (StX.tStar K (tVar 2) tNil)) (tCons (tFld K (tVar 0) "_foreign") tNil)) { nx := fun x H' => Q V.non H', rt := Q }, rt := Q } [some (.ref x), some v, some (.ref p)] G := by
      intro G sG eG en
      refine ⟨.ref p, rfl, .inl ⟨rfl, _, SqL.of eG⟩, ?_⟩
      tm_at "go"
      refine Go.app eG (Go.lt_line (by omega)) rfl (Go.wr fun H2 b2 e2 => ?_)
      exact fin H2 (Go.Same.own sG n1 b2) (by rw [en]; exact e2)
    cases o with
    | none =>
      tm_at "go"
      exact app H1 s1 e1 rfl
    | some m =>
      cases hv with
      | @yes a dy gs _ h1 h2 h3 h4 =>
        tm_at "go"
        refine ⟨.ref a, rfl, a, _, dy, _, .str m, rfl, s1 _ _ h1, T.cl_Piece, h2, h3, ?_⟩
        refine ⟨.ref x, rfl, x, dx, fs, rfl, s1 _ _ hx, x, q1, q2, m, .str n, xs, ys, ns, rfl, hO.same s1, Paired.mapP (nmd_all T.cl_Piece hp) (fun _ _ e => e.same s1), by omega, fun H2 s2 => ⟨_, rfl, ?_⟩⟩
        have e2 := s2 _ _ e1
        have S2 : Same H H2 := s1.trans s2
        cases c : ns.contains m with
        | false =>
          tm_at "go"
          refine app H2 S2 e2 ?_
          refine findIdx_none fun j y hj hy => ?_
          have m3 : ¬ m ∈ ns := by simpa using c
          exact decide_eq_false fun z => m3 (z ▸ List.mem_of_getElem? hy)
        | true =>
          have m3 : m ∈ ns := by simpa using c
          obtain ⟨j, ej⟩ : ∃ j, ns.findIdx? (fun y => decide (y = m)) = some j := by
            cases e : ns.findIdx? (fun y => decide (y = m)) with
            | some j => exact ⟨j, rfl⟩
            | none =>
              have z := List.findIdx?_eq_none_iff.mp e m m3
              simp at z
          obtain ⟨hj, j1, j2⟩ := List.findIdx?_eq_some_iff_getElem.mp ej
          have j1 : ns[j] = m := by simpa using j1
          have hj1 : ns[j]? = some m := by rw [List.getElem?_eq_getElem hj, j1]
          have e5 : wpi ns (some m) = some j := ej
          tm_at "go"
          refine ⟨.ref p, rfl, p, xs, ns, rfl, .inl (SqL.of e2), Paired.mapP (nmd_all T.cl_Piece hp) (fun _ _ e => e.same S2), by omega, fun H3 q s3 n3 e3 => ?_⟩
          refine ⟨.inl ⟨rfl, _, SqL.of e3⟩, .ref a, rfl, a, _, dy, _, .str m, rfl, s3 _ _ (S2 _ _ h1), T.cl_Piece, h2, h3, ?_⟩
          refine ⟨q, ns.map V.str, .str m, j, .str m, rfl, rfl, SqL.of e3, rfl, by rw [List.all_eq_true]; intro y hy; obtain ⟨u, _, rfl⟩ := List.mem_map.mp hy; rfl, by rw [List.getElem?_map, hj1]; rfl, by show (m == m) = true; exact beq_self_eq_true m, fun i z hi hz => ?_, ?_⟩
          · rw [List.getElem?_map] at hz
            obtain ⟨u, hu, rfl⟩ := Option.map_eq_some_iff.mp hz
            obtain ⟨hu1, hu2⟩ := List.getElem?_eq_some_iff.mp hu
            have z := j2 i hi
            rw [hu2] at z
            show (u == m) = false
            simpa using z
          · have e6 := s3 _ _ e2
            refine Go.setL (j := j) e6 (by unfold ixN; rw [if_pos (by omega), if_pos (by omega)]; rfl) rfl (Go.wr fun H4 b4 e4 => ?_)
            exact fin H4 (Go.Same.own (S2.trans s3) n1 b4) (by rw [e5]; exact e4)
end

open Lend LamX NdefX SupX DicX
/-! ### names that differ -/
theorem seventeen {α : Type} {l : List α} (h : l.length = 17) : ∃ z0 z1 z2 z3 z4 z5 z6 z7 z8 z9 z10 z11 z12 z13 z14 z15 z16, l = [z0, z1, z2, z3, z4, z5, z6, z7, z8, z9, z10, z11, z12, z13, z14, z15, z16] := by
  match l, h with
  | [z0, z1, z2, z3, z4, z5, z6, z7, z8, z9, z10, z11, z12, z13, z14, z15, z16], _ => exact ⟨z0, z1, z2, z3, z4, z5, z6, z7, z8, z9, z10, z11, z12, z13, z14, z15, z16, rfl⟩
theorem len3 {α : Type} {l : List α} (h : l.length = 3) : ∃ a b c, l = [a, b, c] := by
  match l, h with
  | [a, b, c], _ => exact ⟨a, b, c, rfl⟩
theorem dj_cons {n : Str} {r acc : List Str} (h1 : ¬ n ∈ r) (h : ∀ m ∈ n :: r, ¬ m ∈ acc) : ∀ m ∈ r, ¬ m ∈ n :: acc := fun m hm q => by
  rcases List.mem_cons.mp q with e | q
  · exact h1 (e ▸ hm)
  · exact h m (.tail _ hm) q
theorem or_cons {n y : Str} {r acc : List Str} (h : y ∈ acc ∨ y ∈ n :: r) : y ∈ n :: acc ∨ y ∈ r := by
  rcases h with h | h
  · exact .inl (.tail _ h)
  · rcases List.mem_cons.mp h with e | h
    · exact .inl (e ▸ .head _)
    · exact .inr h
theorem dupA_cl : ∀ {ns acc : List Str}, ns.Nodup → (∀ n ∈ ns, ¬ n ∈ acc) → dupA acc ns = none
  | [], _, _, _ => rfl
  | n :: r, acc, nd, h => by
    obtain ⟨h1, h2⟩ := List.nodup_cons.mp nd
    rw [dupA, if_neg (h n (.head _))]
    exact dupA_cl h2 (dj_cons h1 h)
theorem dupA_app {y : Str} : ∀ {ns acc : List Str}, ns.Nodup → (∀ n ∈ ns, ¬ n ∈ acc) → y ∈ acc ∨ y ∈ ns → dupA acc (ns ++ [y]) = some y
  | [], acc, _, _, hz => by
    rw [List.nil_append, dupA, if_pos (by simpa using hz)]
  | n :: r, acc, nd, h, hz => by
    obtain ⟨h1, h2⟩ := List.nodup_cons.mp nd
    rw [List.cons_append, dupA, if_neg (h n (.head _))]
    exact dupA_app h2 (dj_cons h1 h) (or_cons hz)
theorem outA_cl : ∀ {us acc : List Str} {i : Nat}, us.Nodup → (∀ n ∈ us, ¬ n ∈ acc) → (∀ n ∈ us, Nm n) → outA acc i (us.map V.str) = none
  | [], _, _, _, _, _ => rfl
  | n :: r, acc, i, nd, h, hn => by
    obtain ⟨h1, h2⟩ := List.nodup_cons.mp nd
    rw [List.map_cons, outA_go (nmV_of (hn n (.head _))) (h n (.head _))]
    exact outA_cl h2 (dj_cons h1 h) fun m hm => hn m (.tail _ hm)
theorem outA_app {y : Str} {r : List V} (nz : Nm y) : ∀ {us acc : List Str} {i : Nat}, us.Nodup → (∀ n ∈ us, ¬ n ∈ acc) → (∀ n ∈ us, Nm n) → y ∈ acc ∨ y ∈ us → outA acc i (us.map V.str ++ V.str y :: r) = some (i + us.length)
  | [], acc, i, _, _, _, hz => by
    rw [List.map_nil, List.nil_append, outA_in (nmV_of nz) (by simpa using hz)]
    rfl
  | n :: us, acc, i, nd, h, hn, hz => by
    obtain ⟨h1, h2⟩ := List.nodup_cons.mp nd
    rw [List.map_cons, List.cons_append, outA_go (nmV_of (hn n (.head _))) (h n (.head _)), outA_app nz h2 (dj_cons h1 h) (fun m hm => hn m (.tail _ hm)) (or_cons hz), List.length_cons]
    congr 1
    omega
theorem fm_some (ns : List Str) : (ns.map some).filterMap id = ns := by
  induction ns with
  | nil => rfl
  | cons n r ih => rw [List.map_cons, List.filterMap_cons]; show n :: _ = _; rw [ih]
theorem fi_some (ns : List Str) : (ns.map some).findIdx? (fun o => o.isNone) = none := findIdx_none fun j y _ hy => by
  rw [List.getElem?_map] at hy
  obtain ⟨u, _, rfl⟩ := Option.map_eq_some_iff.mp hy
  rfl
section
variable {k : Ko} {nm : V} {ns us : List Str} {lot : Option (List V)} {wide : Bool} {z : Str}
theorem ob_dup (h : nmV nm = true) (w : wide = true ∨ ns.length ≤ 8) (d : dupA [] ns = some z) : objE k nm (ns.map some) lot wide = some (kDn k.d, [.str z]) := by
  refine objE4 h (fi_some ns) (fun q => ?_) ?_
  · rw [List.length_map] at q
    rcases w with rfl | w
    · cases q.2
    · omega
  · rw [fm_some, dupE, d]
    rfl
theorem ob_lot (h : nmV nm = true) (w : wide = true ∨ ns.length ≤ 8) (d : dupA [] ns = none) : objE k nm (ns.map some) none wide = some (kOu k.o, [.int (-1)]) := by
  refine objE5 h (fi_some ns) (fun q => ?_) ?_
  · rw [List.length_map] at q
    rcases w with rfl | w
    · cases q.2
    · omega
  · rw [fm_some, dupE, d]
    rfl
theorem ob_out {xs : List V} (h : nmV nm = true) (w : wide = true ∨ (ns.length ≤ 8 ∧ xs.length ≤ 8)) (d : dupA [] ns = none) : objE k nm (ns.map some) (some xs) wide = outE k.o ns xs := by
  have q1 : ¬ (8 < (ns.map some).length ∧ wide = false) := fun q => by
    rw [List.length_map] at q
    rcases w with rfl | w
    · cases q.2
    · omega
  have q2 : ¬ (8 < xs.length ∧ wide = false) := fun q => by
    rcases w with rfl | w
    · cases q.2
    · omega
  have q3 : dupE k.d ((ns.map some).filterMap id) = none := by
    rw [fm_some, dupE, d]
    rfl
  rw [objE7 h (fi_some ns) q1 q3 q2, fm_some]
theorem ob_many (h : nmV nm = true) (w : 8 < ns.length) : objE k nm (ns.map some) lot false = some (kMn k.m, [.int 8]) := objE3 h (fi_some ns) ⟨by rw [List.length_map]; exact w, rfl⟩
theorem ob_manyO {xs : List V} (h : nmV nm = true) (w : ns.length ≤ 8) (d : dupA [] ns = none) (w2 : 8 < xs.length) : objE k nm (ns.map some) (some xs) false = some (kMn k.m, [.int 8]) :=
  objE6 h (fi_some ns) (fun q => by rw [List.length_map] at q; omega) (by rw [fm_some, dupE, d]; rfl) ⟨w2, rfl⟩
theorem ob_ok (h : nmV nm = true) (w : wide = true ∨ (ns.length ≤ 8 ∧ us.length ≤ 8)) (nd : (ns ++ us).Nodup) (hn : ∀ n ∈ us, Nm n) : objE k nm (ns.map some) (some (us.map V.str)) wide = none := by
  obtain ⟨d1, d2, d3⟩ := List.nodup_append.mp nd
  rw [ob_out h (by rw [List.length_map]; exact w) (dupA_cl d1 fun _ _ => List.not_mem_nil), outE, outA_cl d2 (fun n hm q => d3 n (List.mem_reverse.mp q) n hm rfl) hn]
  rfl
end
/-- a list of names, as data -/
theorem Dt.names {K : PySem.W.Frag} {H : Hp} {b p : Addr} {us : List Str} (h : H p = some (.lst (us.map V.str))) (n : p ≠ b) (hl : us.length ≤ 1000) (hz : ∀ z ∈ us, Nm z) : Dt K H b (.ref p) (.list (us.map PyData.str)) := by
  refine .lst (SqL.of h) n (by rw [List.length_map]; omega) ?_
  clear h hl
  induction us with
  | nil => exact .nil
  | cons z r ih => exact .cons (.str (hz z (.head _)).strK) (ih fun y m => hz y (.tail _ m))
theorem dtsN {K : PySem.W.Frag} {H : Hp} {b : Addr} : ∀ {us : List Str}, (∀ z ∈ us, Nm z) → Paired (Dt K H b) (us.map V.str) (us.map PyData.str)
  | [], _ => .nil
  | z :: r, h => .cons (.str (h z (.head _)).strK) (dtsN fun y m => h y (.tail _ m))
theorem depA_names : ∀ us : List Str, depA (us.map PyData.str) = 0
  | [] => rfl
  | z :: r => by
    rw [List.map_cons, depA, depA_names r]
    rfl
theorem Dt.strE {K : PySem.W.Frag} {H : Hp} {b : Addr} {i j : Str} (e : i = j) (h : StrK j) : Dt K H b (.str i) (.str j) := by
  subst e
  exact .str h
/-- a piece at a with the name z -/
def Pc (H : Hp) (C a : Addr) (z : Str) : Prop := ∃ dx fs, H a = some (.ins C dx fs) ∧ fs.lookup ("name" : Str) = some (.str z)
section
variable {K : PySem.W.Frag} {H H' : Hp} {C a b : Addr} {z : Str}
theorem Pc.same (s : Same H H') (h : Pc H C a z) : Pc H' C a z := let ⟨dx, fs, h1, h2⟩ := h; ⟨dx, fs, s _ _ h1, h2⟩
theorem Pc.grow (s : Go.Grow H H') (h : Pc H C a z) : Pc H' C a z := let ⟨dx, fs, h1, h2⟩ := h; ⟨dx, fs, Go.oX s (fun _ z => nomatch z) h1, h2⟩
theorem Pc.but {q : Addr} {ys : List V} (s : Go.But q H H') (e : H q = some (.lst ys)) (h : Pc H C a z) : Pc H' C a z := let ⟨dx, fs, h1, h2⟩ := h; ⟨dx, fs, s _ _ (ins_ne h1 e) h1, h2⟩
theorem Pc.ofc (h : Pc H C a z) (n : NoAttr K C "name") (hz : Nm z) : Ofc K H C (.ref a) (some z) := let ⟨_, _, h1, h2⟩ := h; .yes h1 n h2 hz.sho
theorem pcs_ofc {n : NoAttr K C "name"} : ∀ {as : List Addr} {zs : List Str}, Paired (Pc H C) as zs → (∀ z ∈ zs, Nm z) → Paired (Ofc K H C) (as.map V.ref) (zs.map some)
  | _, _, .nil, _ => .nil
  | _, _, .cons r t, h => .cons (r.ofc n (h _ (.head _))) (pcs_ofc (n := n) t fun y m => h y (.tail _ m))
end
section
variable {P : Program} {w : World} {K : PySem.W.Frag} {mg : Str → Option Value} {base : Heap} {Z : Fs}
def LenR (C : Addr) (sp : Sp) (E : XK) : List V → Hp → VK → Prop := fun xs H Q => ∃ a dx fs, xs = [.ref a] ∧ H a = some (.ins C dx fs) ∧ sp [.ref a] H (fun v H' => ∃ i : Int, v = .int i ∧ 0 ≤ i ∧ i < 2 ^ 63 ∧ Q (.int i) H') E
def ReprR (C : Addr) (sp : Sp) (E : XK) : List V → Hp → VK → Prop := fun xs H Q => ∃ a dx fs, xs = [.ref a] ∧ H a = some (.ins C dx fs) ∧ sp [.ref a] H (fun v H' => ∃ z : Str, v = .str z ∧ Q (.str z) H') E
theorem c_lenO {X : Cx} {CX : CXT} {n : Nat} {f C : Addr} {fd : FuncData} {ps : List Str} {sp : Sp} {E : XK} (F : FnOk X.prog X.w X.K X.mg X.base CX n f fd ps sp) (hr : Room (n + 1) X.A) (hs : Spc X.K C "__len__" f) (hb : Binds X.K fd ps []) (hx : Passes CX X E) : CallR X (.builtin "len") (LenR C sp E) := call_lenO F hr hs hb hx
theorem c_reprO {X : Cx} {CX : CXT} {n : Nat} {f C : Addr} {fd : FuncData} {ps : List Str} {sp : Sp} {E : XK} (F : FnOk X.prog X.w X.K X.mg X.base CX n f fd ps sp) (hr : Room (n + 1) X.A) (hs : Spc X.K C "__repr__" f) (hb : Binds X.K fd ps []) (hx : Passes CX X E) : CallR X (.builtin "repr") (ReprR C sp E) := call_reprO F hr hs hb hx
theorem objE_ends {o : Option (EKind × List V)} {H : Hp} {Q : VK} {E : XK} (en : EndsSo o H Q E) : ∀ e xs, o = some (e, xs) → ∀ d H', ErrAt H H' d e xs → E (.ref e.D) (some d) H' := fun e xs h d H' ea => by
  rw [h] at en
  exact en d H' ea
theorem ends_ok {o : Option (EKind × List V)} {H : Hp} {Q : VK} {E : XK} (en : EndsSo o H Q E) (h : o = none) : ∀ v H', Same H H' → Q v H' := by
  rw [h] at en
  exact en
theorem EndsSo.later {o : Option (EKind × List V)} {G G1 : Hp} {Q : VK} {E : XK} (s : Same G G1) (en : EndsSo o G Q E) : EndsSo o G1 Q E := by
  match o, en with
  | none, en => exact fun v H' s' => en v H' (s.trans s')
  | some (e, xs), en => exact fun d H' ea => en d H' ⟨Go.freeS s ea.new, s.trans ea.same, ea.at_⟩
theorem i_wide {k : Ko} {C CP b p : Addr} {H : Hp} {Q : VK} {E : XK} {nm ov : V} {d : PyData} {xs : List V} {os : List (Option Str)} {lot : Option (List V)}
    (hd : Dt K H b nm d) (hsh : nmV nm = false → ∃ c, Shows K H nm c ∧ c ≤ 5000) (hs : SeqA K H p xs) (hp : Paired (Ofc K H CP) xs os) (hl : xs.length ≤ 100) (hv : LotV K H b ov lot)
    (er : ∀ e ys, objE k nm os lot true = some (e, ys) → ∀ d H', ErrAt H H' d e ys → E (.ref e.D) (some d) H')
    (ok : ∀ ys, objE k nm os lot true = none → lot = some ys → ∀ (H' : Hp) (x q1 q2 : Addr), Same H H' → H x = none → H q1 = none → H q2 = none → Ob H' C x q1 q2 nm xs ys → Q (.ref x) H') : sp_wide K C CP k [nm, .ref p, ov] H Q E :=
  ⟨b, p, nm, ov, d, xs, os, lot, rfl, hd, hsh, hs, hp, hl, hv, er, fun ys h1 h2 H' x dx q1 q2 fs s nx n1 n2 ex of f1 f2 => ok ys h1 h2 H' x q1 q2 s nx n1 n2 ⟨⟨dx, fs, ex, of⟩, f1, f2⟩⟩
theorem i_obj {k : Ko} {C CP b : Addr} {H : Hp} {Q : VK} {E : XK} {nm ov : V} {d : PyData} {xs : List V} {os : List (Option Str)} {lot : Option (List V)}
    (hd : Dt K H b nm d) (hsh : nmV nm = false → ∃ c, Shows K H nm c ∧ c ≤ 5000) (hp : Paired (Ofc K H CP) xs os) (hl : xs.length ≤ 100) (hv : LotV K H b ov lot)
    (er : ∀ e ys, objE k nm os lot false = some (e, ys) → ∀ d H', ErrAt H H' d e ys → E (.ref e.D) (some d) H')
    (ok : ∀ ys, objE k nm os lot false = none → lot = some ys → ∀ (H' : Hp) (x q1 q2 : Addr), Same H H' → H x = none → H q1 = none → H q2 = none → Ob H' C x q1 q2 nm xs ys → Q (.ref x) H') :
    MkP (fun ws => StkX.Rest 2 (sp_objI K C CP k) ws ov) C E (nm :: xs) H Q :=
  i_object hd hsh hp hl hv er fun ys h1 h2 H' x dx q1 q2 fs s nx n1 n2 ex _ of f1 f2 => ok ys h1 h2 H' x q1 q2 s nx n1 n2 ⟨⟨dx, fs, ex, of⟩, f1, f2⟩
theorem i_wideE {k : Ko} {C CP b p : Addr} {H : Hp} {Q : VK} {E : XK} {nm ov : V} {d : PyData} {xs : List V} {os : List (Option Str)} {lot : Option (List V)} {o : Option (EKind × List V)}
    (hd : Dt K H b nm d) (hsh : nmV nm = false → ∃ c, Shows K H nm c ∧ c ≤ 5000) (hs : SeqA K H p xs) (hp : Paired (Ofc K H CP) xs os) (hl : xs.length ≤ 100) (hv : LotV K H b ov lot) (ho : objE k nm os lot true = o) (en : EndsSo o H Q E) : sp_wide K C CP k [nm, .ref p, ov] H Q E :=
  i_wide hd hsh hs hp hl hv (objE_ends (ho.symm ▸ en)) fun ys h _ H' x q1 q2 s _ _ _ _ => ends_ok (ho.symm ▸ en) h _ _ s
theorem i_objE {k : Ko} {C CP b : Addr} {H : Hp} {Q : VK} {E : XK} {nm ov : V} {d : PyData} {xs : List V} {os : List (Option Str)} {lot : Option (List V)} {o : Option (EKind × List V)}
    (hd : Dt K H b nm d) (hsh : nmV nm = false → ∃ c, Shows K H nm c ∧ c ≤ 5000) (hp : Paired (Ofc K H CP) xs os) (hl : xs.length ≤ 100) (hv : LotV K H b ov lot) (ho : objE k nm os lot false = o) (en : EndsSo o H Q E) :
    MkP (fun ws => StkX.Rest 2 (sp_objI K C CP k) ws ov) C E (nm :: xs) H Q :=
  i_obj hd hsh hp hl hv (objE_ends (ho.symm ▸ en)) fun ys h _ H' x q1 q2 s _ _ _ _ => ends_ok (ho.symm ▸ en) h _ _ s
theorem i_archE {k : Ko} {C CO b kb : Addr} {H : Hp} {Q : VK} {E : XK} {nm : V} {d : PyData} {xs : List V} {os : List (Option Str)} {o : Option (EKind × List V)}
    (hd : Dt K H b nm d) (hsh : nmV nm = false → ∃ c, Shows K H nm c ∧ c ≤ 5000) (hp : Paired (Ofc K H CO) xs os) (hl : xs.length ≤ 100) (ho : archE k kb nm os = o) (en : EndsSo o H Q E) :
    MkP (fun vs H Q E => ∃ ws rest, vs = ws ++ rest ∧ ws.length = 2 ∧ rest.length ≤ sizeLine ∧ ∀ p, H p = none → sp_archI K C CO k kb (ws ++ [V.ref p]) (upd H p (.tup rest)) Q E) C E (nm :: xs) H Q :=
  i_archive hd hsh hp hl (objE_ends (ho.symm ▸ en)) fun h H' x dx q1 fs s _ _ _ _ _ => ends_ok (ho.symm ▸ en) h _ _ s
theorem fi_app (ns : List Str) (r : List (Option Str)) : ((ns.map some) ++ none :: r).findIdx? (fun o => o.isNone) = some ns.length := by
  induction ns with
  | nil => rfl
  | cons n l ih =>
    rw [List.map_cons, List.cons_append, List.findIdx?_cons]
    show Option.map _ _ = _
    rw [ih]
    rfl
theorem Paired.app {α β : Type} {R : α → β → Prop} : ∀ {xs ys : List α} {os qs : List β}, Paired R xs os → Paired R ys qs → Paired R (xs ++ ys) (os ++ qs)
  | _, _, _, _, .nil, h => h
  | _, _, _, _, .cons r t, h => .cons r (Paired.app t h)
theorem paired_dt {K : PySem.W.Frag} {G : Hp} {b l : Addr} (hB : Bag G b l) : ∀ {ts : List Addr} {oz : List Wy} {ds : List PyData}, Paired (fun t o => WhyAt o G t) ts oz → Paired (WhyD K G b) oz ds → DtA K G b (ts.map V.ref) ds
  | _, _, _, .nil, .nil => .nil
  | _, _, _, .cons h t, .cons d r => .cons (h.dt hB d) (paired_dt hB t r)
theorem lenOb {C x q1 q2 : Addr} {nm : V} {xs ys : List V} {H : Hp} {Q : VK} {E : XK} (h : Ob H C x q1 q2 nm xs ys) (lx : xs.length ≤ 1000) (q : Q (.int (xs.length : Nat)) H) : LenR C (sp_obj_len C) E [V.ref x] H Q := by
  obtain ⟨dx, fs, hx, of⟩ := h.ex
  exact ⟨x, dx, fs, rfl, hx, x, q1, q2, nm, xs, ys, rfl, h, _, rfl, Int.natCast_nonneg _, by omega, q⟩
theorem lenAr {C x q1 : Addr} {nm : V} {xs : List V} {H : Hp} {Q : VK} {E : XK} (h : Ar H C x q1 nm xs) (lx : xs.length ≤ 1000) (q : Q (.int (xs.length : Nat)) H) : LenR C (sp_arch_len C) E [V.ref x] H Q := by
  obtain ⟨dx, fs, hx, of⟩ := h.ex
  exact ⟨x, dx, fs, rfl, hx, x, q1, nm, xs, rfl, h, _, rfl, Int.natCast_nonneg _, by omega, q⟩
theorem reprOb {C x q1 q2 : Addr} {z : Str} {xs ys : List V} {H : Hp} {Q : VK} {E : XK} (h : Ob H C x q1 q2 (.str z) xs ys) (lz : z.length ≤ 100) (lx : xs.length ≤ 1000) (q : Q (.str (obLab z xs.length)) H) : ReprR C (sp_obj_repr C) E [V.ref x] H Q := by
  obtain ⟨dx, fs, hx, of⟩ := h.ex
  exact ⟨x, dx, fs, rfl, hx, x, q1, q2, z, xs, ys, rfl, h, lz, lx, _, rfl, q⟩
end
section
variable {K : PySem.W.Frag} {C x q1 q2 : Addr} {nm : V} {xs ys : List V} {σ : L2.St} {H : Hp} {Q : VK} {E : XK} {i : Nat}
theorem methP (hv : σ[i]? = some (some (.ref x))) (h : Ob H C x q1 q2 nm xs ys) (q : ∀ H' p, Same H H' → H p = none → H' p = some (.lst xs) → Q (.ref p) H') : tMeth C "pieces" (sp_obj_pieces C) [] E (tVar i) tNil σ H Q := by
  obtain ⟨dx, fs, hx, of⟩ := h.ex
  exact ⟨_, hv, x, dx, fs, rfl, hx, of.no _ (by decide) (by decide) (by decide), x, q1, q2, nm, xs, ys, rfl, h, q⟩
theorem methO (hv : σ[i]? = some (some (.ref x))) (h : Ob H C x q1 q2 nm xs ys) (q : ∀ H' p, Same H H' → H p = none → H' p = some (.lst ys) → Q (.ref p) H') : tMeth C "outside" (sp_obj_outside C) [] E (tVar i) tNil σ H Q := by
  obtain ⟨dx, fs, hx, of⟩ := h.ex
  exact ⟨_, hv, x, dx, fs, rfl, hx, of.no _ (by decide) (by decide) (by decide), x, q1, q2, nm, xs, ys, rfl, h, q⟩
theorem fldOb (hv : σ[i]? = some (some (.ref x))) (h : Ob H C x q1 q2 nm xs ys) (c : Cls K C) (n : NoAttr K C "name") (q : Q nm H) : tFld K (tVar i) "name" σ H Q := by
  obtain ⟨dx, fs, hx, of⟩ := h.ex
  exact ⟨_, hv, x, C, dx, fs, nm, rfl, hx, c, n, of.name, q⟩
end
theorem bmL {K : PySem.W.Frag} {p : Addr} {xs : List V} {H : Hp} {X : Prop} (h : SqL K H p xs) (q : X) : tyV K "list" (.ref p) H ∧ X := ⟨.inl ⟨rfl, _, h⟩, q⟩
def RTup (K : PySem.W.Frag) : List V → Hp → VK → Prop := fun xs H Q => ∃ p ys, xs = [.ref p] ∧ ((SqL K H p ys ∧ ∀ l, H l = none → Q (.ref l) (upd H l (.tup ys))) ∨ (SqT K H p ys ∧ Q (.ref p) H))
theorem c_tupR {X : Cx} : CallR X (.type "tuple") (RTup X.K) := call_tuple_of
theorem tupL {K : PySem.W.Frag} {a : Addr} {xs : List V} {H : Hp} {Q : VK} (h : SqL K H a xs) (q : Go.New (.tup xs) H fun p H' => Q (.ref p) H') : RTup K [V.ref a] H Q := ⟨a, xs, rfl, .inl ⟨h, q⟩⟩
local macro_rules | `(tactic| tm_at "idx") => `(tactic| first
  | exact atI_nat (j := 8) rfl
  | exact atI_nat (j := 9) rfl
  | fail)
local macro_rules | `(tactic| tm_at "idx") => `(tactic| first
  | exact atI_nat (j := 5) rfl
  | exact atI_nat (j := 6) rfl
  | exact atI_nat (j := 7) rfl
  | fail)
local macro_rules | `(tactic| tm_at "sp") => `(tactic| first
  | ((with_reducible refine' Go.app ?h ?l ?e ?_); (case h => tm_at "hpO"); (case l => exact Go.lt_line (Nat.le_of_ble_eq_true rfl)); (case e => rfl))
  | fail)
local macro_rules | `(tactic| tm_at "sp") => `(tactic| first
  | with_reducible refine Go.bm ?_
  | ((with_reducible refine' bmL ?h ?_); (case h => tm_at "hpL"))
  | ((with_reducible refine' tupL ?h ?_); (case h => tm_at "hpL"))
  | fail)
theorem cut_drop {xs : List V} {k : Nat} (h : k ≤ xs.length) : cutV xs (some (k : Int)) none = xs.drop k := by
  unfold cutV
  rw [HT.sIx_none, HT.sIx_nat, Nat.min_eq_left h, List.take_of_length_le (by rw [List.length_drop]; exact Nat.le_refl _)]
theorem cut_mid {xs : List V} {i j : Nat} (h : i ≤ xs.length) (h2 : j ≤ xs.length) : cutV xs (some (i : Int)) (some (j : Int)) = (xs.drop i).take (j - i) := by
  unfold cutV
  rw [HT.sIx_nat, HT.sIx_nat, Nat.min_eq_left h, Nat.min_eq_left h2]
theorem cutS_drop {H : Hp} {q : Addr} {l : List Str} {k : Nat} (h : k ≤ l.length) (e : H q = some (.lst (cutV (l.map V.str) (some (k : Int)) none))) : H q = some (.lst ((l.drop k).map V.str)) := by
  rw [e, cut_drop (by rw [List.length_map]; exact h), List.map_drop]
theorem cutS_take {H : Hp} {q : Addr} {l : List Str} {k : Nat} (h : k ≤ l.length) (e : H q = some (.lst (cutV (l.map V.str) none (some (k : Int))))) : H q = some (.lst ((l.take k).map V.str)) := by
  rw [e, cut_take (by rw [List.length_map]; exact h), List.map_take]
theorem cutS_mid {H : Hp} {q : Addr} {l : List Str} {i j : Nat} (h : i ≤ l.length) (h2 : j ≤ l.length) (e : H q = some (.lst (cutV (l.map V.str) (some (i : Int)) (some (j : Int))))) : H q = some (.lst (((l.drop i).take (j - i)).map V.str)) := by
  rw [e, cut_mid (by rw [List.length_map]; exact h) (by rw [List.length_map]; exact h2), List.map_take, List.map_drop]
theorem cutA_take {H : Hp} {q : Addr} {l : List Addr} {k : Nat} (h : k ≤ l.length) (e : H q = some (.lst (cutV (l.map V.ref) none (some (k : Int))))) : H q = some (.lst ((l.take k).map V.ref)) := by
  rw [e, cut_take (by rw [List.length_map]; exact h), List.map_take]
theorem cutT_drop {H : Hp} {q : Addr} {l : List Str} {k : Nat} (h : k ≤ l.length) (e : H q = some (.tup (cutV (l.map V.str) (some (k : Int)) none))) : H q = some (.tup ((l.drop k).map V.str)) := by
  rw [e, cut_drop (by rw [List.length_map]; exact h), List.map_drop]
theorem cutTA_take {H : Hp} {q : Addr} {l : List Addr} {k : Nat} (h : k ≤ l.length) (e : H q = some (.tup (cutV (l.map V.ref) none (some (k : Int))))) : H q = some (.tup ((l.take k).map V.ref)) := by
  rw [e, cut_take (by rw [List.length_map]; exact h), List.map_take]
theorem Paired.take {α β : Type} {R : α → β → Prop} : ∀ {xs : List α} {ys : List β} (k : Nat), Paired R xs ys → Paired R (xs.take k) (ys.take k)
  | _, _, 0, _ => .nil
  | _, _, _ + 1, .nil => .nil
  | _, _, k + 1, .cons r t => .cons r (Paired.take k t)
theorem tabL {T : List (Addr × Str)} {H H' : Hp} {p : Addr} (h : ∃ xs, H p = some (.lst xs)) (s : Go.But p H H') (t : Tabs T H) : Tabs T H' := fun y hy => by
  obtain ⟨xs, h1⟩ := h
  obtain ⟨ps, e1, e2, e3⟩ := t y hy
  have n1 : y.1 ≠ p := fun z => by
    rw [z, h1] at e1
    cases e1
  refine ⟨ps, s _ _ n1 e1, e2, fun pos cv hc => ?_⟩
  obtain ⟨c, q1, q2⟩ := e3 pos cv hc
  refine ⟨c, q1, s _ _ (fun z => ?_) q2⟩
  rw [z, h1] at q2
  have z' := Option.some.inj q2
  unfold CodeO at z'
  cases z'
theorem growS {H H1 H2 : Hp} (s : Same H1 H2) (g : Go.Grow H H1) : Go.Grow H H2 := g.trans (Go.Grow.same s)
theorem growX {H H1 H2 : Hp} (s : Go.Grow H1 H2) (g : Go.Grow H H1) : Go.Grow H H2 := g.trans s
theorem growR {H : Hp} : Go.Grow H H := Go.Grow.same (Same.refl _)
local macro_rules | `(tactic| tm_at "grow") => `(tactic| first
  | exact growR
  | (refine' growS (by assumption) ?z0; (case z0 => tm_at "grow"))
  | (refine' growX (by assumption) ?z0; (case z0 => tm_at "grow"))
  | fail)
/-- the state of the law's last part: names, pieces -/
structure Ns (zs : List Str) : Prop where
  len : zs.length = 17
  nd : zs.Nodup
  nm : ∀ z ∈ zs, Nm z
theorem Ns.sub {zs us : List Str} (h : Ns zs) (s : us.Sublist zs) : us.Nodup ∧ ∀ z ∈ us, Nm z := ⟨h.nd.sublist s, fun z m => h.nm z (s.subset m)⟩

open Lend LamX NdefX SupX DicX
section
variable {P : Program} {w : World} {K : PySem.W.Frag} {mg : Str → Option Value} {base : Heap} {Z : Fs}
def sp_wide_so (C : Addr) (TT : List (Addr × Str)) : Sp := fun vs H Q _ => ∃ (b l p q : Addr) (zs : List Str) (as : List Addr), vs = [.ref p, .ref q] ∧ Bag H b l ∧ Tabs TT H ∧ H p = some (.lst (zs.map V.str)) ∧ p ≠ b ∧ Ns zs ∧ H q = some (.lst (as.map V.ref)) ∧ Paired (Pc H C) as (zs.take 9) ∧ ∀ H' : Hp, Q (.bl true) H'
theorem ok_wide_so {k : Ko} {kb cc pp : Addr} {TT : List (Addr × Str)} (T : Txt K w mg Z) (L : La P K mg k kb)
    (hc : Z.d_law_wide_so.code = .ref cc) (TB_law_wide_so : TabB base mg cc pp) (hm_law_wide_so : (pp, QL "_law_wide_so") ∈ TT) (hu_law_wide_so : ∀ p ∈ TT, p.1 = pp → p.2 = QL "_law_wide_so") :
    FnOk P w K mg base CX0 19 Z.a_law_wide_so Z.d_law_wide_so ["_law_pool", "_law_p"] (sp_wide_so Z.C_Piece TT) := by
  have G_wide_object := ok_wide_object (P := P) (base := base) T L.L
  have G_Object___init__W := ok_ObjectW (base := base) T L.L
  have G_Object___len__ := ok_Object_len (P := P) (base := base) T
  have G_Object___repr__ := ok_Object_repr (P := P) (base := base) T
  have G_Object___eq__ := ok_Object_eq (P := P) (base := base) T
  have G_Object_pieces := ok_Object_pieces (P := P) (base := base) T
  have G_Object_outside := ok_Object_outside (P := P) (base := base) T
  have G_law_whys := ok_whys7 (P := P) (w := w) (base := base) T L
  have G_law_same := ok_law_same (P := P) (base := base) T 4
  obtain ⟨oc, od, kV, doc, pm, an, cdv, ct, osl, e, lk, hcd⟩ := T.F_law_wide_so.ex
  rw [e] at lk hc ⊢
  obtain rfl : cdv = .ref cc := hc
  refine fn_of lk hcd sc_law_wide_so (fun vs H Q E h => ?_) (fun A outer s H vs Q E hr h => ?_)
  · obtain ⟨b, l, p, q, zs, as, rfl, _⟩ := h
    rfl
  · obtain ⟨b, l, p, q, zs, as, rfl, hB, hT, hp, npb, N, hq, hP, k'⟩ := h
    refine ⟨_, PSs.nox (pss_cons (ps_par (i := 2) (j := 3) (by rfl) sc_law_wide_so.nd rfl rfl (by decide) rfl rfl (pa_cons (pe_callTy Go.c_list (by rfl) T.n_list boot_list (pa_cons (pv 1) pa_nil)) (pa_cons (pe_slice (sl_list : SlR _ (rSlL K)) (pv 0) (po_some pe_int) po_none) pa_nil)) (by rfl))
      (pss_cons (ps_par (i := 4) (j := 5) (by rfl) sc_law_wide_so.nd rfl rfl (by decide) rfl rfl (pa_cons (pe_call G_wide_object (hr.mono (by omega)) (by rfl) T.m_wide_object T.F_wide_object.kp T.b_wide_object .nil LendN.passF (pa_cons pe_str (pa_cons (pv 2) (pa_cons (pv 3) pa_nil)))) (pa_cons (pe_callN0 G_wide_object (hr.mono (by omega)) (by rfl) T.m_wide_object T.F_wide_object.kp T.k_wide_object_0_outside_pieces_name LendN.passF (pk_cons (pe_callTy (c_tupR : CallR _ _ (RTup K)) (by rfl) T.n_tuple boot_tuple (pa_cons (pe_slice (sl_list : SlR _ (rSlL K)) (pv 0) (po_some pe_int) po_none) pa_nil)) (pk_cons (pe_callTy (c_tupR : CallR _ _ (RTup K)) (by rfl) T.n_tuple boot_tuple (pa_cons (pe_slice (sl_list : SlR _ (rSlL K)) (pv 1) po_none (po_some pe_int)) pa_nil)) (pk_cons pe_str pk_nil)))) pa_nil)) (by rfl))
      (pss_cons (ps_expr (pe_bm PySem.F.plainAttrs_list PySem.F.slot_list_append PySem.F.type_list_append mt_append (pv 2) (pa_cons pe_non pa_nil)))
      (C8.pss_cut (ps_expr (pe_bm PySem.F.plainAttrs_list PySem.F.slot_list_append PySem.F.type_list_append mt_append (pv 3) (pa_cons pe_str pa_nil)))
      (pss_cons (ps_set (i := 6) sc_law_wide_so.nd rfl (Or.inl rfl) (pe_lst (pa_cons (pe_fld (pv 4) rfl) (pa_cons (pe_callB (c_lenO G_Object___len__ (hr.mono (by omega)) T.S_Object___len__ T.b_Object___len__ pass0) (by rfl) T.n_len boot_len (pa_cons (pv 4) pa_nil)) (pa_cons (pe_lc (own := [("_law_one", 7)]) (g := gName 7) (tt := tYes) rfl sc_law_wide_so.nd (pi_list (pe_meth0 (pv 4) T.cl_Object T.M_Object_pieces G_Object_pieces (hr.mono (by omega)) T.b_Object_pieces .nil pass0)) (blkOk_by (N := N_law_wide_so) (sc := defScope s_law_wide_so) (by decide +kernel)) (fun _ _ _ _ _ => pg_name (i := 7) sc_law_wide_so.nd rfl (Or.inl rfl)) (fun _ _ _ _ _ => pts_nil) (fun _ _ _ _ _ => (DicX.pe_fldK (K := K) rfl (pv 7) rfl))) (pa_cons (pe_meth0 (pv 4) T.cl_Object T.M_Object_outside G_Object_outside (hr.mono (by omega)) T.b_Object_outside .nil pass0) (pa_cons (pe_meth0 (pv 5) T.cl_Object T.M_Object_outside G_Object_outside (hr.mono (by omega)) T.b_Object_outside .nil pass0) (pa_cons (pe_callB (c_lenO G_Object___len__ (hr.mono (by omega)) T.S_Object___len__ T.b_Object___len__ pass0) (by rfl) T.n_len boot_len (pa_cons (pv 5) pa_nil)) (pa_cons (pe_callB (c_reprO G_Object___repr__ (hr.mono (by omega)) T.S_Object___repr__ T.b_Object___repr__ pass0) (by rfl) T.n_repr boot_repr (pa_cons (pv 4) pa_nil)) pa_nil)))))))))
      (pss_cons (ps_if (pt_not (pt_val (pe_call G_law_same (hr.mono (by omega)) (by rfl) T.m_law_same T.F_law_same.kp T.b_law_same .nil pass0 (pa_cons (pv 6) (pa_cons (pe_lst (pa_cons pe_str (pa_cons pe_int (pa_cons (pe_slice (sl_list : SlR _ (rSlL K)) (pv 0) po_none (po_some pe_int)) (pa_cons (pe_slice (sl_list : SlR _ (rSlL K)) (pv 0) (po_some pe_int) po_none) (pa_cons (pe_slice (sl_list : SlR _ (rSlL K)) (pv 0) (po_some pe_int) po_none) (pa_cons pe_int (pa_cons pe_str pa_nil)))))))) pa_nil))))) (pss_one (ps_ret pe_bl)) pss_nil)
      (C8.pss_cut (ps_if (PW.pt (pw_or (pt_cmpR (op_neO G_Object___eq__ (hr.mono (by omega)) T.S_Object___eq__ T.i_Object.ne T.i_Object.ins.hm T.b_Object___eq__ pass0) (pe_call G_wide_object (hr.mono (by omega)) (by rfl) T.m_wide_object T.F_wide_object.kp T.b_wide_object .nil LendN.passF (pa_cons pe_str (pa_cons (pe_slice (sl_list : SlR _ (rSlL K)) (pv 1) po_none (po_some pe_int)) (pa_cons (pe_slice (sl_list : SlR _ (rSlL K)) (pv 0) (po_some pe_int) (po_some pe_int)) pa_nil)))) (StkX.pe_makeRW T.mk_Object G_Object___init__W (hr.mono (by omega)) (by rfl) T.m_Object LendN.passF (pa_cons pe_str (pa_cons (pe_ix (ix_list : IxR _ (rIxL K)) (pv 1) pe_int (fun _ _ => rfl)) pa_nil)) (pk_cons (pe_slice (sl_list : SlR _ (rSlL K)) (pv 0) (po_some pe_int) (po_some pe_int)) pk_nil)) (nomark _)) (pw_or1 (pt_not (pt_val (pe_callB (call_isi : CallR _ _ (rIsi K)) (by rfl) T.n_isinstance boot_isinstance (pa_cons (pv 4) (pa_cons (pe_glob (v := .ref Z.C_Object) (by rfl) T.m_Object rfl) pa_nil)))))))) (pss_one (ps_ret pe_bl)) pss_nil)
      (pss_cons (ps_set (i := 8) sc_law_wide_so.nd rfl (Or.inl rfl) (pe_lst (pa_cons (Lend.pe_lam0 (T := TT) TB_law_wide_so rfl hm_law_wide_so hu_law_wide_so (LendN.free_ok (by decide +kernel)) rfl) (pa_cons (Lend.pe_lam1 (T := TT) TB_law_wide_so rfl hm_law_wide_so hu_law_wide_so (LendN.free_ok (by decide +kernel)) rfl rfl pe_int) (pa_cons (Lend.pe_lam1 (T := TT) TB_law_wide_so rfl hm_law_wide_so hu_law_wide_so (LendN.free_ok (by decide +kernel)) rfl rfl pe_int) (pa_cons (Lend.pe_lam1 (T := TT) TB_law_wide_so rfl hm_law_wide_so hu_law_wide_so (LendN.free_ok (by decide +kernel)) rfl rfl pe_int) (pa_cons (Lend.pe_lam1 (T := TT) TB_law_wide_so rfl hm_law_wide_so hu_law_wide_so (LendN.free_ok (by decide +kernel)) rfl rfl pe_int) (pa_cons (Lend.pe_lam1 (T := TT) TB_law_wide_so rfl hm_law_wide_so hu_law_wide_so (LendN.free_ok (by decide +kernel)) rfl rfl pe_int) pa_nil))))))))
      (pss_cons (ps_set (i := 9) sc_law_wide_so.nd rfl (Or.inl rfl) (pe_lst (pa_cons (pe_tup (pa_cons pe_str (pa_cons (pe_tup (pa_cons pe_str pa_nil)) pa_nil))) (pa_cons (pe_tup (pa_cons pe_str (pa_cons (pe_tup (pa_cons pe_int pa_nil)) pa_nil))) (pa_cons (pe_tup (pa_cons pe_str (pa_cons (pe_tup (pa_cons (pe_ix (ix_list : IxR _ (rIxL K)) (pv 0) pe_int (fun _ _ => rfl)) pa_nil)) pa_nil))) (pa_cons (pe_tup (pa_cons pe_str (pa_cons (pe_tup (pa_cons (pe_un un_neg pe_int) pa_nil)) pa_nil))) (pa_cons (pe_tup (pa_cons pe_str (pa_cons (pe_tup (pa_cons pe_int pa_nil)) pa_nil))) pa_nil)))))))
      (pss_one (ps_ret (pe_call G_law_same (hr.mono (by omega)) (by rfl) T.m_law_same T.F_law_same.kp T.b_law_same .nil pass0 (pa_cons (LendN.pe_callW [("_law_pool", 0), ("_law_p", 1)] G_law_whys (hr.mono (by omega)) (by rfl) T.m_law_whys T.F_law_whys.kp T.b_law_whys .nil (pa_cons (pv 8) pa_nil)) (pa_cons (pe_op op_cat (pv 9) (pe_lst (pa_cons (pe_tup (pa_cons pe_str (pa_cons (pe_tup (pa_cons (pe_op op_sub (pe_callB (Go.c_len : CallR _ _ (Go.RLen K)) (by rfl) T.n_len boot_len (pa_cons (pv 0) pa_nil)) pe_int) pa_nil)) pa_nil))) pa_nil))) pa_nil)))))))))))))), ?_⟩
    rw [show L2.start N_law_wide_so [V.ref p, V.ref q] = [some (V.ref p), some (V.ref q), none, none, none, none, none, none, none, none] from rfl]
    try dsimp only [cxOf, Cx.nox]
    have hO := pcs_ofc (n := T.n_Piece_name) hP (fun z m => N.nm z (List.mem_of_mem_take m))
    have las : as.length = 9 := by rw [Paired.length hP, List.length_take, N.len]; rfl
    have l17 := N.len
    have nt := fun k => N.sub (List.take_sublist k zs)
    have nD := fun k => N.sub (List.drop_sublist k zs)
    have ll : ∀ k, ((zs.drop k).map V.str).length ≤ 100 := fun k => by rw [List.length_map, List.length_drop]; omega
    tm_at "go"
    rename_i g A1 n1 s1 e1 gb gl y A2 n2 s2 e2 yb yl
    have e2 := cutS_drop (k := 9) (by omega) e2
    have S2 : Same H A2 := s1.trans s2
    have nd9 : (zs.take 9 ++ zs.drop 9).Nodup := by rw [List.take_append_drop]; exact N.nd
    have ok1 : objE k (.str "a") ((zs.take 9).map some) (some ((zs.drop 9).map V.str)) true = none := ob_ok (by decide +kernel) (.inl rfl) nd9 (nD 9).2
    have a9 : (as.map V.ref).length ≤ 100 := by rw [List.length_map]; omega
    refine i_wide (b := b) (d := .str "a") (os := (zs.take 9).map some) (lot := some ((zs.drop 9).map V.str)) (by tm_at "dt") (by tm_at "shw") (.inl (SqL.of (s2 _ _ e1))) (Paired.mapP hO fun _ _ e => e.same S2) a9 (.seq (.inl (SqL.of e2)) (dtsN (nD 9).2) (ll 9)) (fun e ys h => by rw [ok1] at h; cases h) fun ys _ hy A3 wd w1 w2 s3 nw nw1 nw2 hW => ?_
    cases hy
    tm_at "go"
    rename_i u1 A4 n4 s4 e4 u1b u1l t1 A5 n5 s5 e5 t1b t1l u2 A6 n6 s6 e6 u2b u2l t2 A7 n7 s7 e7 t2b t2l
    have e5 := cutT_drop (k := 1) (by omega) e5
    have e7 := cutTA_take (k := 1) (by omega) e7
    have S3 : Same H A3 := S2.trans s3
    have S37 : Same A3 A7 := ((s4.trans s5).trans s6).trans s7
    have S7 : Same H A7 := S3.trans S37
    have hO1 : Paired (Ofc K A7 Z.C_Piece) ((as.take 1).map V.ref) ((zs.take 1).map some) := pcs_ofc (n := T.n_Piece_name) (by have q := Paired.take 1 hP; rw [List.take_take] at q; exact Paired.mapP q fun _ _ e => e.same S7) (nt 1).2
    have nd1 : (zs.take 1 ++ zs.drop 1).Nodup := by rw [List.take_append_drop]; exact N.nd
    have ok2 : objE k (.str "b") ((zs.take 1).map some) (some ((zs.drop 1).map V.str)) true = none := ob_ok (by decide +kernel) (.inl rfl) nd1 (nD 1).2
    refine i_wide (b := b) (d := .str "b") (os := (zs.take 1).map some) (lot := some ((zs.drop 1).map V.str)) (by tm_at "dt") (by tm_at "shw") (.inr (SqT.of e7)) hO1 (by rw [List.length_map, List.length_take]; omega) (.seq (.inr (SqT.of (((s6.trans s7)) _ _ e5))) (dtsN (nD 1).2) (ll 1)) (fun e ys h => by rw [ok2] at h; cases h) fun ys _ hy A8 fa f1 f2 s8 nf nf1 nf2 hF => ?_
    cases hy
    have S8 : Same H A8 := S7.trans s8
    have S38 : Same A3 A8 := S37.trans s8
    have eg : A8 g = some (.lst (as.map V.ref)) := S38 _ _ (s3 _ _ (s2 _ _ e1))
    have ey : A8 y = some (.lst ((zs.drop 9).map V.str)) := S38 _ _ (s3 _ _ e2)
    have hW := hW.same S38
    tm_at "go"
    refine Go.app eg (Go.lt_line (by rw [List.length_map]; omega)) rfl (Go.wr fun A9 b9 e9 => ?_)
    have eg2 : A2 g = some (.lst (as.map V.ref)) := s2 _ _ e1
    have eg7 : A7 g = some (.lst (as.map V.ref)) := S37 _ _ (s3 _ _ eg2)
    have ey7 : A7 y = some (.lst ((zs.drop 9).map V.str)) := S37 _ _ (s3 _ _ e2)
    have ngy : y ≠ g := (ne_of_none e1 n2).symm
    have hW9 := hW.but b9 eg (ne_of_none eg2 nw1).symm (ne_of_none eg2 nw2).symm
    have hF9 := hF.but b9 eg (ne_of_none eg7 nf1).symm (ne_of_none eg7 nf2).symm
    have npg : p ≠ g := ne_of_none hp n1
    have nqg : q ≠ g := ne_of_none hq n1
    have npy : p ≠ y := ne_of_none (s1 _ _ hp) n2
    have nqy : q ≠ y := ne_of_none (s1 _ _ hq) n2
    refine Go.cut (fun σ' H' => σ' = [some (.ref p), some (.ref q), some (.ref g), some (.ref y), some (.ref wd), some (.ref fa), none, none, none, none] ∧ Bag H' b l ∧ Tabs TT H' ∧ H' p = some (.lst (zs.map V.str)) ∧ H' q = some (.lst (as.map V.ref)) ∧ Paired (Pc H' Z.C_Piece) as (zs.take 9) ∧ Ob H' Z.C_Object wd w1 w2 (.str "a") (as.map V.ref) ((zs.drop 9).map V.str) ∧ Ob H' Z.C_Object fa f1 f2 (.str "b") ((as.take 1).map V.ref) ((zs.drop 1).map V.str)) ?_ ?_
    · tm_at "go"
      refine Go.app (b9 _ _ ngy ey) (Go.lt_line (by have := ll 9; omega)) rfl (Go.wr fun A10 b10 e10 => ?_)
      have ey9 := b9 _ _ ngy ey
      exact ⟨rfl, ((hB.same S8).but b9 gb.symm gl.symm).but b10 yb.symm yl.symm, tabL ⟨_, ey9⟩ b10 (tabL ⟨_, eg⟩ b9 (tabS S8 hT)), b10 _ _ npy (b9 _ _ npg (S8 _ _ hp)), b10 _ _ nqy (b9 _ _ nqg (S8 _ _ hq)), Paired.mapP hP fun _ _ e => ((e.same S8).but b9 eg).but b10 ey9,
        hW9.but b10 ey9 (ne_of_none e2 nw1).symm (ne_of_none e2 nw2).symm, hF9.but b10 ey9 (ne_of_none ey7 nf1).symm (ne_of_none ey7 nf2).symm⟩
    · clear hW hF hW9 hF9 e9 b9 eg ey eg2 eg7 ey7 S38 S8 S7 S37 S3 s8 s7 s6 s5 s4 s3 s2 s1 hO1 e7 e5 e6 e4
      rintro σ' B0 ⟨rfl, BB, TT0, fp, fq, fP, hW, hF⟩
      have lA : (as.map V.ref).length = 9 := by rw [List.length_map, las]
      have hO0 := pcs_ofc (n := T.n_Piece_name) fP (fun z m => N.nm z (List.mem_of_mem_take m))
      have hN0 := nmd_all T.cl_Piece hO0
      have l9 : (zs.take 9).length = 9 := by rw [List.length_take, l17]; rfl
      tm_at "go"
      refine fldOb rfl hW T.cl_Object T.n_Object_name ?_
      tm_at "go"
      refine lenOb hW (by omega) ?_
      tm_at "go"
      refine methP rfl hW fun B1 r1 s1 nr1 er1 => ?_
      tm_at "go"
      obtain ⟨n9, hn9⟩ : ∃ n9, n9 = zs.take 9 := ⟨_, rfl⟩
      rw [← hn9] at hN0 l9
      refine Go.lc_w (walk_list (K := K) (xs := as.map V.ref)) (fun L i H' => Same B0 H' ∧ B0 L = none ∧ r1 ≠ L ∧ H' L = some (.lst ((n9.take i).map V.str)) ∧ H' r1 = some (.lst (as.map V.ref))) (by tm_at "wipe") ?_ ?_ ?_ ?_
      · intro L H2 n0 s2 e2
        exact ⟨s1.trans s2, Go.freeS s1 n0, ne_of_none er1 n0, e2, s2 _ _ er1⟩
      · intro L i H2 hi ⟨s2, _, _, _, e2⟩
        exact SqL.of e2
      · rintro L i v H2 H3 hi ⟨s2, nL, nrL, e2, e3⟩ ⟨rfl, hv⟩
        obtain ⟨n, hn, nm2⟩ := Paired.get2 hN0 hv
        tm_at "go"
        refine fldN (nm2.same s2) (fun Q q => ⟨_, rfl, q⟩) ?_
        refine Go.lcEnd e2 (Go.lt_line (by simp; omega)) fun H6 s6 e6 => ?_
        refine ⟨Go.Same.own s2 nL s6, nL, nrL, ?_, s6 _ _ nrL e3⟩
        rw [e6, List.take_add_one, hn]
        simp
      · rintro L B2 ⟨s2, nL, _, e2, _⟩
        rw [lA, ← l9, List.take_length] at e2
        have hW2 := hW.same s2
        have hF2 := hF.same s2
        tm_at "go"
        refine methO rfl hW2 fun B3 r3 s3 nr3 er3 => ?_
        tm_at "go"
        refine methO rfl (hF2.same s3) fun B4 r4 s4 nr4 er4 => ?_
        tm_at "go"
        refine lenOb ((hF2.same s3).same s4) (by rw [List.length_map, List.length_take]; omega) ?_
        tm_at "go"
        refine reprOb ((hW2.same s3).same s4) (by decide +kernel) (by omega) ?_
        tm_at "go"
        rename_i td C0 m0 z0 e0 b0 l0 c9 C1 m1 z1 e1 b1 l1 d9 C2 m2 z2 e2' b2 l2 d1 C3 m3 z3 e3 b3 l3 du C4 m4 z4 e4 b4 l4
        have e1 := cutS_take (k := 9) (by omega) e1
        have e2' := cutS_drop (k := 9) (by omega) e2'
        have e3 := cutS_drop (k := 1) (by omega) e3
        rw [← hn9] at e1
        have v9 : ∀ z ∈ n9, Nm z := by rw [hn9]; exact (nt 9).2
        have B4' : Bag C4 b l := by tm_at "bag"
        have lB2 : L ≠ b := BB.ne nL
        have lB3 : r3 ≠ b := (BB.same s2).ne nr3
        have lB4 : r4 ≠ b := ((BB.same s2).same s3).ne nr4
        have eS : obLab "a" (as.map V.ref).length = "Object(a, 9 pieces)" := by rw [lA]; decide +kernel
        refine i_sameB (d := .list [.str "a", .int 9, .list (n9.map PyData.str), .list ((zs.drop 9).map PyData.str), .list ((zs.drop 1).map PyData.str), .int 1, .str "Object(a, 9 pieces)"]) B4'
          (.lst (SqL.of (by tm_at "hpO")) b0 (Nat.le_of_ble_eq_true rfl) (.cons (by tm_at "dt") (.cons (.intE (by rw [lA]; rfl)) (.cons (.names (by tm_at "hpO") lB2 (by omega) v9) (.cons (.names (by tm_at "hpO") lB3 (by rw [List.length_drop]; omega) (nD 9).2) (.cons (.names (by tm_at "hpO") lB4 (by rw [List.length_drop]; omega) (nD 1).2) (.cons (.intE (by rw [List.length_map, List.length_take, las]; rfl)) (.cons (.strE eS (strK_lit (by decide +kernel))) .nil))))))))
          (.lst (SqL.of (by tm_at "hpO")) b4 (Nat.le_of_ble_eq_true rfl) (.cons (by tm_at "dt") (.cons (.int 9) (.cons (.names (by tm_at "hpO") b1 (by omega) v9) (.cons (.names (by tm_at "hpO") b2 (by rw [List.length_drop]; omega) (nD 9).2) (.cons (.names (by tm_at "hpO") b3 (by rw [List.length_drop]; omega) (nD 1).2) (.cons (.int 1) (.cons (by tm_at "dt") .nil))))))))
          (by simp only [dep, depA, depA_names]; omega) fun C5 z5 => ?_
        have S0 : Same B0 C5 := (((((((s2.trans s3).trans s4).trans z0).trans z1).trans z2).trans z3).trans z4).trans z5
        have B5 : Bag C5 b l := B4'.same z5
        have T5 : Tabs TT C5 := tabS S0 TT0
        have fp5 := S0 _ _ fp
        have fq5 := S0 _ _ fq
        have fP5 := Paired.mapP fP fun _ _ e => e.same S0
        have hW5 := hW.same S0
        clear B4' hW2 hF2 e0 e1 e2 e2' e3 e4 er1 er3 er4
        tm_at "go"
        refine Go.cut (fun σ' H' => σ' = [some (.ref p), some (.ref q), some (.ref g), some (.ref y), some (.ref wd), some (.ref fa), some (.ref td), none, none, none] ∧ Bag H' b l ∧ Tabs TT H' ∧ H' p = some (.lst (zs.map V.str)) ∧ H' q = some (.lst (as.map V.ref)) ∧ Paired (Pc H' Z.C_Piece) as (zs.take 9)) ?_ ?_
        · clear S0 z5 z4 z3 z2 z1 z0 s4 s3 s2 s1 fP hF hW
          obtain ⟨a0, ar, rfl⟩ : ∃ a0 ar, as = a0 :: ar := by
            cases as with
            | nil => cases las
            | cons a0 ar => exact ⟨a0, ar, rfl⟩
          have us1 : ((zs.drop 1).take 1).Sublist zs := (List.take_sublist _ _).trans (List.drop_sublist _ _)
          have nm1 := (N.sub us1).2
          have l1' : ((zs.drop 1).take 1).length = 1 := by rw [List.length_take, List.length_drop, l17]; rfl
          have lt1 : (zs.take 1).length = 1 := by rw [List.length_take, l17]; rfl
          have nd2 : (zs.take 1 ++ (zs.drop 1).take 1).Nodup := by
            rw [← List.take_add]
            exact (nt 2).1
          have okA : ∀ wide, objE k (.str "a") ((zs.take 1).map some) (some (((zs.drop 1).take 1).map V.str)) wide = none := fun wide => ob_ok (by decide +kernel) (.inr ⟨by omega, by omega⟩) nd2 nm1
          have hO5 : Paired (Ofc K C5 Z.C_Piece) [V.ref a0] ((zs.take 1).map some) := pcs_ofc (n := T.n_Piece_name) (as := [a0]) (by have q := Paired.take 1 fP5; rw [List.take_take] at q; exact q) (nt 1).2
          tm_at "go"
          rename_i c1 D1 n1 y1 e1 b1' l1 c2 D2 n2 y2 e2 b2' l2'
          have e1 := cutA_take (k := 1) (by rw [las]; decide) e1
          have e2 := cutS_mid (i := 1) (j := 2) (by omega) (by omega) e2
          have yD2 : Same C5 D2 := y1.trans y2
          refine i_wide (b := b) (d := .str "a") (os := (zs.take 1).map some) (lot := some (((zs.drop 1).take 1).map V.str)) (by tm_at "dt") (by tm_at "shw") (.inl (SqL.of (y2 _ _ e1))) (Paired.mapP hO5 fun _ _ e => e.same yD2) (Nat.le_of_ble_eq_true rfl) (.seq (.inl (SqL.of e2)) (dtsN nm1) (by rw [List.length_map]; omega)) (fun e ys h => by rw [okA] at h; cases h) fun ys _ hy D3 x1 v1 v2 y3 nx1 _ _ hA => ?_
          cases hy
          tm_at "go"
          rename_i c3 D4 n4 y4 e4 b4' l4'
          have e4 := cutS_mid (i := 1) (j := 2) (by omega) (by omega) e4
          refine i_obj (b := b) (d := .str "a") (xs := [.ref a0]) (os := (zs.take 1).map some) (lot := some (((zs.drop 1).take 1).map V.str)) (by tm_at "dt") (by tm_at "shw") (Paired.mapP hO5 fun _ _ e => e.same ((yD2.trans y3).trans y4)) (Nat.le_of_ble_eq_true rfl) (.seq (.inl (SqL.of e4)) (dtsN nm1) (by rw [List.length_map]; omega)) (fun e ys h => by rw [okA] at h; cases h) fun ys _ hy D5 x2 v3 v4 y5 nx2 _ _ hB2 => ?_
          cases hy
          have hA5 := (hA.same y4).same y5
          obtain ⟨dA, fA, hxA, _⟩ := hA5.ex
          obtain ⟨dB, fB, hxB, _⟩ := hB2.ex
          refine ⟨x1, dA, fA, rfl, hxA, RhsT.ins T.i_Object hxB, x1, v1, v2, x2, v3, v4, "a", [.ref a0], _, _, rfl, hA5, hB2, mem1 ⟨a0, rfl⟩, ⟨(zs.drop 1).take 1, rfl, rfl⟩, fun D6 y6 => ⟨true, rfl, ?_⟩⟩
          have S6 : Same C5 D6 := (((yD2.trans y3).trans y4).trans y5).trans y6
          obtain ⟨dW, fW, hxW, _⟩ := (hW5.same S6).ex
          tm_at "go"
          refine Go.isi (.own _) (TyX.insK T.i_Object hxW) T.i_Object.ins.me ?_
          tm_at "go"
          exact ⟨B5.same S6, tabS S6 T5, S6 _ _ fp5, S6 _ _ fq5, Paired.mapP fP5 fun _ _ e => e.same S6⟩
        · clear S0 z5 z4 z3 z2 z1 z0 s4 s3 s2 s1 fP hF hW fp5 fq5 fP5 hW5 B5 T5 hN0
          -- END32
          rintro σ' B0 ⟨rfl, BB, TT0, fp, fq, fP⟩
          obtain ⟨z0, z1, zr, ez⟩ : ∃ z0 z1 zr, zs = z0 :: z1 :: zr := by
            match zs, l17 with
            | z0 :: z1 :: zr, _ => exact ⟨z0, z1, zr, rfl⟩
          have g0 : atI (zs.map V.str) 0 = some (.str z0) := by rw [ez]; exact atI_nat (j := 0) rfl
          have m0 : z0 ∈ n9 := by rw [hn9, ez]; exact .head _
          have m1 : z1 ∈ zs.drop 1 := by rw [ez]; exact .head _
          have d1 : (zs.drop 1).take (2 - 1) = [z1] := by rw [ez]; rfl
          have nm0 : Nm z0 := N.nm _ (by rw [ez]; exact .head _)
          have nm1 : Nm z1 := N.nm _ (by rw [ez]; exact .tail _ (.head _))
          have h8 : zs[8]? = some zs[8] := List.getElem?_eq_getElem (by omega)
          obtain ⟨z8, hz8⟩ : ∃ z8, z8 = zs[8]'(by omega) := ⟨_, rfl⟩
          rw [← hz8] at h8
          have d8 : (zs.drop 8).map V.str = V.str z8 :: (zs.drop 9).map V.str := by rw [drop_at h8]; rfl
          have m8 : z8 ∈ n9 := by
            rw [hn9]
            refine List.mem_of_getElem? (i := 8) ?_
            rw [List.getElem?_take_of_lt (by decide), h8]
          have nm8 : Nm z8 := N.nm _ (List.mem_of_getElem? h8)
          have h5b : ((zs.drop 1).map V.str ++ [z1].map V.str).length ≤ 100 := by
            rw [List.length_append, List.length_map, List.length_drop, l17]
            exact Nat.le_of_ble_eq_true rfl
          have h5a : ((zs.drop 1).map V.str).length + ([z1].map V.str).length ≤ 100000 := by
            rw [List.length_map, List.length_drop, l17]
            exact Nat.le_of_ble_eq_true rfl
          have nd9 : n9.Nodup := by rw [hn9]; exact (nt 9).1
          have v9 : ∀ z ∈ n9, Nm z := by rw [hn9]; exact (nt 9).2
          rw [← hn9] at fP
          have cO0 : Paired (Ofc K B0 Z.C_Piece) (as.map V.ref) (n9.map some) := pcs_ofc (n := T.n_Piece_name) fP v9
          tm_at "go"
          rename_i f0 c0 dV0 do0 pm0 ct0 F0 w0 nf0 T0 hF0 hC0 hD0 f1' c1 dV1 do1 pm1 ct1 F1 w1' nf1' T1 hF1 hC1 hD1 f2' c2 dV2 do2 pm2 ct2 F2 w2' nf2' T2 hF2' hC2 hD2 f3 c3 dV3 do3 pm3 ct3 F3 w3 nf3 T3 hF3 hC3 hD3 f4 c4 dV4 do4 pm4 ct4 F4 w4 nf4 T4 hF4 hC4 hD4 f5 c5 dV5 do5 pm5 ct5 F5 w5 nf5 T5' hF5 hC5 hD5 ak J0 n0 j0 ea a1 a2 v0 J1 n1 j1 ev0 b1 b2 v1 J2 n2 j2 ev1 b3 b4 v2 J3 n3 j3 ev2 b5 b6 v3 J4 n4 j4 ev3 b7 b8 v4 J5 n5 j5 ev4 b9 b10 v5 J6 n6 j6 ev5 b11 b12 v6 J7 n7 j7 ev6 b13 b14 v7 J8 n8 j8 ev7 b15 b16 v8 J9 n9' j9 ev8 b17 b18 v9' J10 n10 j10 ev9 b19 b20 du J11 n11 j11 edu b21 b22
          have G0 : Go.Grow B0 J11 := by tm_at "grow"
          have fp9 : J11 p = some (.lst (zs.map V.str)) := Go.oX G0 Go.lst_ne fp
          have fq9 : J11 q = some (.lst (as.map V.ref)) := Go.oX G0 Go.lst_ne fq
          have fP9 := Paired.mapP fP fun _ _ e => e.grow G0
          refine whysW [some ("InvalidName", [.str "A"]), some ("InvalidPiece", [.int 9]), some ("DuplicateName", [.str z0]), some ("InvalidOutside", [.int (-1)]), some ("InvalidOutside", [.int 0]), some ("InvalidOutside", [.int 16])] (by tm_at "hpL") rfl (Nat.le_of_ble_eq_true rfl) ?_ ?_ ?_
          · intro y m
            rcases List.mem_cons.mp m with rfl | m
            · exact ⟨rfl, ⟨_, rfl⟩, (show List.lookup _ (defScope s_law_wide_so).names = some .cell by decide +kernel), rfl⟩
            rcases List.mem_cons.mp m with rfl | m
            · exact ⟨rfl, ⟨_, rfl⟩, (show List.lookup _ (defScope s_law_wide_so).names = some .cell by decide +kernel), rfl⟩
            cases m
          · intro cs C off n x' hx
            match n, hx with
            | 0, hx =>
              cases hx
              refine' ask_g0 (EK := EK7 k kb) (k := 13) (N := []) (fr := []) (ws := []) (some (kNm k.n, [.str "A"])) ?S0 C off .nil ?hF0 ?hC0 ?hD0 ?hb00 ?body0 ?hk0 ?hb0
              (case hF0 => tm_at "hpO")
              (case hC0 => tm_at "hpO")
              (case hD0 => tm_at "defs")
              (case hb00 => exact rfl)
              (case S0 => exact nscope_by (by decide +kernel))
              (case body0 => exact fun A outer s H E hr => (pe_call G_wide_object (hr.mono (by omega)) (by rfl) T.m_wide_object T.F_wide_object.kp T.b_wide_object .nil LendN.passL (pa_cons pe_str (pa_cons (pe_lst (pa_cons pe_non pa_nil)) (pa_cons pe_non pa_nil)))))
              (case hk0 => exact (fun e xs h => by cases h; exact ⟨.head _, rfl⟩))
              (case hb0 =>
                intro Gc Qc Ec sc en
                have cp : Gc p = some (.lst (zs.map V.str)) := sc _ _ fp9
                have cq : Gc q = some (.lst (as.map V.ref)) := sc _ _ fq9
                have cO : Paired (Ofc K Gc Z.C_Piece) (as.map V.ref) (n9.map some) := pcs_ofc (n := T.n_Piece_name) (Paired.mapP fP9 fun _ _ e => e.same sc) v9
                tm_at "go"
                rename_i r1 G1 n1 s1 e1 _ _
                exact i_wideE (b := b) (d := .str "A") (by tm_at "dt") (by tm_at "shw") (.inl (SqL.of e1)) (.cons (ofc_six (b := b) (mg := mg) (w := w) (Z := Z) T.i_Piece .non) .nil) (Nat.le_of_ble_eq_true rfl) (.no flatK.non) (objE1 (by decide +kernel)) (en.later s1))
            | 1, hx =>
              cases hx
              refine' ask_g1 (EK := EK7 k kb) (k := 13) (N := ["_law_a", "_law_p"]) (fr := ["_law_p"]) (ws := [.ref q]) (some (kPc k.p, [.int 9])) ?S1 C off (.cons (C.cap (.tail _ (.head _)) rfl) .nil) ?hF1 ?hC1 ?hD1 ?hb01 ?body1 ?hk1 ?hb1
              (case hF1 => tm_at "hpO")
              (case hC1 => tm_at "hpO")
              (case hD1 => tm_at "defs")
              (case hb01 => exact ⟨_, rfl, fun _ => rfl⟩)
              (case S1 => exact nscope_by (by decide +kernel))
              (case body1 => exact fun A outer s H E hr => (pe_call G_wide_object (hr.mono (by omega)) (by rfl) T.m_wide_object T.F_wide_object.kp T.b_wide_object .nil LendN.passL (pa_cons pe_str (pa_cons (pe_op op_cat (pv 1) (pe_lst (pa_cons pe_int pa_nil))) (pa_cons pe_non pa_nil)))))
              (case hk1 => exact (fun e xs h => by cases h; exact ⟨.tail _ (.head _), rfl⟩))
              (case hb1 =>
                intro Gc Qc Ec sc en
                have cp : Gc p = some (.lst (zs.map V.str)) := sc _ _ fp9
                have cq : Gc q = some (.lst (as.map V.ref)) := sc _ _ fq9
                have cO : Paired (Ofc K Gc Z.C_Piece) (as.map V.ref) (n9.map some) := pcs_ofc (n := T.n_Piece_name) (Paired.mapP fP9 fun _ _ e => e.same sc) v9
                tm_at "go"
                rename_i r1 G1 n1 s1 e1 _ _
                refine Go.cat (s1 _ _ cq) e1 (Go.le_line (by rw [lA]; decide)) rfl ?_
                tm_at "go"
                rename_i r2 G2 n2 s2 e2 _ _
                exact i_wideE (b := b) (d := .str "a") (by tm_at "dt") (by tm_at "shw") (.inl (SqL.of e2)) (Paired.app (Paired.mapP cO fun _ _ e => e.same (s1.trans s2)) (.cons (ofc_six (b := b) (mg := mg) (w := w) (Z := Z) T.i_Piece (.int 3)) .nil)) (by rw [List.length_append, lA]; decide) (.no flatK.non) (by rw [objE2 (by decide +kernel) (fi_app _ _), l9]; rfl) (en.later (s1.trans s2)))
            | 2, hx =>
              cases hx
              refine' ask_g1 (EK := EK7 k kb) (k := 13) (N := ["_law_b", "_law_p"]) (fr := ["_law_p"]) (ws := [.ref q]) (some (kDn k.d, [.str z0])) ?S2 C off (.cons (C.cap (.tail _ (.head _)) rfl) .nil) ?hF2 ?hC2 ?hD2 ?hb02 ?body2 ?hk2 ?hb2
              (case hF2 => tm_at "hpO")
              (case hC2 => tm_at "hpO")
              (case hD2 => tm_at "defs")
              (case hb02 => exact ⟨_, rfl, fun _ => rfl⟩)
              (case S2 => exact nscope_by (by decide +kernel))
              (case body2 => exact fun A outer s H E hr => (pe_call G_wide_object (hr.mono (by omega)) (by rfl) T.m_wide_object T.F_wide_object.kp T.b_wide_object .nil LendN.passL (pa_cons pe_str (pa_cons (pe_op op_cat (pv 1) (pe_slice (sl_list : SlR _ (rSlL K)) (pv 1) po_none (po_some pe_int))) (pa_cons pe_non pa_nil)))))
              (case hk2 => exact (fun e xs h => by cases h; exact ⟨.tail _ (.tail _ (.tail _ (.head _))), rfl⟩))
              (case hb2 =>
                intro Gc Qc Ec sc en
                have cp : Gc p = some (.lst (zs.map V.str)) := sc _ _ fp9
                have cq : Gc q = some (.lst (as.map V.ref)) := sc _ _ fq9
                have cO : Paired (Ofc K Gc Z.C_Piece) (as.map V.ref) (n9.map some) := pcs_ofc (n := T.n_Piece_name) (Paired.mapP fP9 fun _ _ e => e.same sc) v9
                tm_at "go"
                rename_i r1 G1 n1 s1 e1 _ _
                have e1 := cutA_take (k := 1) (by rw [las]; decide) e1
                refine Go.cat (s1 _ _ cq) e1 (Go.le_line (by rw [lA, List.length_map, List.length_take, las]; decide)) rfl ?_
                tm_at "go"
                rename_i r2 G2 n2 s2 e2 _ _
                refine i_wideE (b := b) (d := .str "a") (os := (n9 ++ [z0]).map some) (by tm_at "dt") (by tm_at "shw") (.inl (SqL.of e2)) ?_ (by rw [List.length_append, lA, List.length_map, List.length_take, las]; decide) (.no flatK.non) (ob_dup (by decide +kernel) (.inl rfl) (dupA_app nd9 (fun _ _ => List.not_mem_nil) (.inr m0))) (en.later (s1.trans s2))
                rw [List.map_append]
                exact Paired.app (Paired.mapP cO fun _ _ e => e.same (s1.trans s2)) (by have q := Paired.take 1 (Paired.mapP cO fun _ _ e => e.same (s1.trans s2)); rw [← List.map_take, ← List.map_take, hn9, List.take_take, ez] at q; exact q))
            | 3, hx =>
              cases hx
              refine' ask_g1 (EK := EK7 k kb) (k := 13) (N := ["_law_c", "_law_p"]) (fr := ["_law_p"]) (ws := [.ref q]) (some (kOu k.o, [.int (-1)])) ?S3 C off (.cons (C.cap (.tail _ (.head _)) rfl) .nil) ?hF3 ?hC3 ?hD3 ?hb03 ?body3 ?hk3 ?hb3
              (case hF3 => tm_at "hpO")
              (case hC3 => tm_at "hpO")
              (case hD3 => tm_at "defs")
              (case hb03 => exact ⟨_, rfl, fun _ => rfl⟩)
              (case S3 => exact nscope_by (by decide +kernel))
              (case body3 => exact fun A outer s H E hr => (pe_call G_wide_object (hr.mono (by omega)) (by rfl) T.m_wide_object T.F_wide_object.kp T.b_wide_object .nil LendN.passL (pa_cons pe_str (pa_cons (pv 1) (pa_cons pe_non pa_nil)))))
              (case hk3 => exact (fun e xs h => by cases h; exact ⟨.tail _ (.tail _ (.tail _ (.tail _ (.head _)))), rfl⟩))
              (case hb3 =>
                intro Gc Qc Ec sc en
                have cp : Gc p = some (.lst (zs.map V.str)) := sc _ _ fp9
                have cq : Gc q = some (.lst (as.map V.ref)) := sc _ _ fq9
                have cO : Paired (Ofc K Gc Z.C_Piece) (as.map V.ref) (n9.map some) := pcs_ofc (n := T.n_Piece_name) (Paired.mapP fP9 fun _ _ e => e.same sc) v9
                tm_at "go"
                exact i_wideE (b := b) (d := .str "a") (by tm_at "dt") (by tm_at "shw") (.inl (SqL.of cq)) cO (by rw [lA]; decide) (.no flatK.non) (ob_lot (by decide +kernel) (.inl rfl) (dupA_cl nd9 fun _ _ => List.not_mem_nil)) en)
            | 4, hx =>
              cases hx
              refine' ask_g1 (EK := EK7 k kb) (k := 13) (N := ["_law_d", "_law_p", "_law_pool"]) (fr := ["_law_p", "_law_pool"]) (ws := [.ref q, .ref p]) (some (kOu k.o, [.int 0])) ?S4 C off (.cons (C.cap (.tail _ (.head _)) rfl) (.cons (C.cap (.head _) rfl) .nil)) ?hF4 ?hC4 ?hD4 ?hb04 ?body4 ?hk4 ?hb4
              (case hF4 => tm_at "hpO")
              (case hC4 => tm_at "hpO")
              (case hD4 => tm_at "defs")
              (case hb04 => exact ⟨_, rfl, fun _ => rfl⟩)
              (case S4 => exact nscope_by (by decide +kernel))
              (case body4 => exact fun A outer s H E hr => (pe_call G_wide_object (hr.mono (by omega)) (by rfl) T.m_wide_object T.F_wide_object.kp T.b_wide_object .nil LendN.passL (pa_cons pe_str (pa_cons (pv 1) (pa_cons (pe_slice (sl_list : SlR _ (rSlL K)) (pv 2) (po_some pe_int) po_none) pa_nil)))))
              (case hk4 => exact (fun e xs h => by cases h; exact ⟨.tail _ (.tail _ (.tail _ (.tail _ (.head _)))), rfl⟩))
              (case hb4 =>
                intro Gc Qc Ec sc en
                have cp : Gc p = some (.lst (zs.map V.str)) := sc _ _ fp9
                have cq : Gc q = some (.lst (as.map V.ref)) := sc _ _ fq9
                have cO : Paired (Ofc K Gc Z.C_Piece) (as.map V.ref) (n9.map some) := pcs_ofc (n := T.n_Piece_name) (Paired.mapP fP9 fun _ _ e => e.same sc) v9
                tm_at "go"
                rename_i r1 G1 n1 s1 e1 _ _
                have e1 := cutS_drop (k := 8) (by rw [l17]; decide) e1
                refine i_wideE (b := b) (d := .str "a") (by tm_at "dt") (by tm_at "shw") (.inl (SqL.of (s1 _ _ cq))) (Paired.mapP cO fun _ _ e => e.same s1) (by rw [lA]; decide) (.seq (.inl (SqL.of e1)) (dtsN (nD 8).2) (ll 8)) ?_ (en.later s1)
                rw [ob_out (by decide +kernel) (.inl rfl) (dupA_cl nd9 fun _ _ => List.not_mem_nil), outE, d8]
                show (outA n9.reverse 0 (([] : List Str).map V.str ++ V.str z8 :: (zs.drop 9).map V.str)).map _ = _
                rw [outA_app nm8 List.nodup_nil (fun _ h => nomatch h) (fun _ h => nomatch h) (.inl (List.mem_reverse.mpr m8))]
                rfl)
            | 5, hx =>
              cases hx
              refine' ask_g1 (EK := EK7 k kb) (k := 13) (N := ["_law_f", "_law_pool"]) (fr := ["_law_pool"]) (ws := [.ref p]) (some (kOu k.o, [.int 16])) ?S5 C off (.cons (C.cap (.head _) rfl) .nil) ?hF5 ?hC5 ?hD5 ?hb05 ?body5 ?hk5 ?hb5
              (case hF5 => tm_at "hpO")
              (case hC5 => tm_at "hpO")
              (case hD5 => tm_at "defs")
              (case hb05 => exact ⟨_, rfl, fun _ => rfl⟩)
              (case S5 => exact nscope_by (by decide +kernel))
              (case body5 => exact fun A outer s H E hr => (pe_call G_wide_object (hr.mono (by omega)) (by rfl) T.m_wide_object T.F_wide_object.kp T.b_wide_object .nil LendN.passL (pa_cons pe_str (pa_cons (pe_lst pa_nil) (pa_cons (pe_op op_cat (pe_slice (sl_list : SlR _ (rSlL K)) (pv 1) (po_some pe_int) po_none) (pe_slice (sl_list : SlR _ (rSlL K)) (pv 1) (po_some pe_int) (po_some pe_int))) pa_nil)))))
              (case hk5 => exact (fun e xs h => by cases h; exact ⟨.tail _ (.tail _ (.tail _ (.tail _ (.head _)))), rfl⟩))
              (case hb5 =>
                intro Gc Qc Ec sc en
                have cp : Gc p = some (.lst (zs.map V.str)) := sc _ _ fp9
                have cq : Gc q = some (.lst (as.map V.ref)) := sc _ _ fq9
                have cO : Paired (Ofc K Gc Z.C_Piece) (as.map V.ref) (n9.map some) := pcs_ofc (n := T.n_Piece_name) (Paired.mapP fP9 fun _ _ e => e.same sc) v9
                tm_at "go"
                rename_i r1 G1 n1 s1 e1 _ _ r2 G2 n2 s2 e2 _ _ r3 G3 n3 s3 e3 _ _
                have e2 := cutS_drop (k := 1) (by rw [l17]; decide) e2
                have e3 := cutS_mid (i := 1) (j := 2) (by rw [l17]; decide) (by rw [l17]; decide) e3
                rw [d1] at e3
                refine Go.cat (s3 _ _ e2) e3 (Go.le_line h5a) rfl ?_
                tm_at "go"
                rename_i r4 G4 n4 s4 e4 _ _
                have sG : Same Gc G4 := ((s1.trans s2).trans s3).trans s4
                refine i_wideE (b := b) (d := .str "a") (os := ([] : List Str).map some) (by tm_at "dt") (by tm_at "shw") (.inl (SqL.of (s4 _ _ (s3 _ _ (s2 _ _ e1))))) .nil (Nat.le_of_ble_eq_true rfl) (.seq (.inl (SqL.of e4)) (Paired.app (dtsN (nD 1).2) (dtsN (us := [z1]) (mem1 nm1))) h5b) ?_ (en.later sG)
                rw [ob_out (by decide +kernel) (.inl rfl) rfl, outE]
                show (outA [] 0 ((zs.drop 1).map V.str ++ V.str z1 :: [])).map _ = _
                rw [outA_app nm1 (nD 1).1 (fun _ _ => List.not_mem_nil) (nD 1).2 (.inr m1), List.length_drop, l17]
                rfl)
            | n + 6, hx => cases hx
          · intro G tr tss sG nt etr hpp
            have BG : Bag G b l := by tm_at "bag"
            have k0 := nm0.strK
            have ntb : tr ≠ b := Bag.ne (by tm_at "bag") nt
            obtain ⟨y2, y3, y4, y5, y6, y7, y8, y9, y10, y11, y12, y13, y14, y15, y16, hzr⟩ : ∃ y2 y3 y4 y5 y6 y7 y8 y9 y10 y11 y12 y13 y14 y15 y16, zr = [y2, y3, y4, y5, y6, y7, y8, y9, y10, y11, y12, y13, y14, y15, y16] := by
              rw [ez] at l17
              obtain ⟨w0, w1, y2, y3, y4, y5, y6, y7, y8, y9, y10, y11, y12, y13, y14, y15, y16, e⟩ := seventeen l17
              exact ⟨y2, y3, y4, y5, y6, y7, y8, y9, y10, y11, y12, y13, y14, y15, y16, (List.cons.inj (List.cons.inj e).2).2⟩
            have fpL : G p = some (.lst [.str z0, .str z1, .str y2, .str y3, .str y4, .str y5, .str y6, .str y7, .str y8, .str y9, .str y10, .str y11, .str y12, .str y13, .str y14, .str y15, .str y16]) := by
              have q := sG _ _ fp9
              rw [ez, hzr] at q
              exact q
            have xA : Dt K G b (.ref tr) (.list [.tuple [.str "InvalidName", .tuple [.str "A"]], .tuple [.str "InvalidPiece", .tuple [.int 9]], .tuple [.str "DuplicateName", .tuple [.str z0]], .tuple [.str "InvalidOutside", .tuple [.int (-1)]], .tuple [.str "InvalidOutside", .tuple [.int 0]], .tuple [.str "InvalidOutside", .tuple [.int 16]]]) := by
              refine .lst (SqL.of etr) ntb (by rw [List.length_map, Paired.length hpp]; exact Nat.le_of_ble_eq_true rfl) (paired_dt BG hpp ?_)
              have er1 : ∀ {c : Str} {v : V} {d : PyData}, StrK c → Dt K G b v d → WhyD K G b (some (c, [v])) (.tuple [.str c, .tuple [d]]) := fun hc h => .er hc (Nat.le_of_ble_eq_true rfl) (.cons h .nil)
              exact .cons (er1 (strK_lit (by decide +kernel)) (.str (strK_lit (by decide +kernel)))) (.cons (er1 (strK_lit (by decide +kernel)) (.int _)) (.cons (er1 (strK_lit (by decide +kernel)) (.str k0)) (.cons (er1 (strK_lit (by decide +kernel)) (.int _)) (.cons (er1 (strK_lit (by decide +kernel)) (.int _)) (.cons (er1 (strK_lit (by decide +kernel)) (.int _)) .nil)))))
            have q1 : G v0 = some (.tup [.str "A"]) := by tm_at "hpO"
            have q2 : G v1 = some (.tup [.str "InvalidName", .ref v0]) := by tm_at "hpO"
            have q3 : G v2 = some (.tup [.int 9]) := by tm_at "hpO"
            have q4 : G v3 = some (.tup [.str "InvalidPiece", .ref v2]) := by tm_at "hpO"
            have q5 : G v4 = some (.tup [.str z0]) := by tm_at "hpO"
            have q6 : G v5 = some (.tup [.str "DuplicateName", .ref v4]) := by tm_at "hpO"
            have q7 : G v6 = some (.tup [.int (-1)]) := by tm_at "hpO"
            have q8 : G v7 = some (.tup [.str "InvalidOutside", .ref v6]) := by tm_at "hpO"
            have q9 : G v8 = some (.tup [.int 0]) := by tm_at "hpO"
            have q10 : G v9' = some (.tup [.str "InvalidOutside", .ref v8]) := by tm_at "hpO"
            have q11 : G du = some (.lst [.ref v1, .ref v3, .ref v5, .ref v7, .ref v9']) := by tm_at "hpO"
            clear fp9 fp fq fq9 fP fP9 cO0 G_wide_object G_Object___init__W G_Object___len__ G_Object___repr__ G_Object___eq__ G_Object_pieces G_Object_outside G_law_whys G_law_same hpp etr sG ea ev0 ev1 ev2 ev3 ev4 ev5 ev6 ev7 ev8 ev9 edu j0 j1 j2 j3 j4 j5 j6 j7 j8 j9 j10 j11 n0 n1 n2 n3 n4 n5 n6 n7 n8 n9' n10 n11 hF0 hC0 hD0 hF1 hC1 hD1 hF2' hC2 hD2 hF3 hC3 hD3 hF4 hC4 hD4 hF5 hC5 hD5 w0 w1' w2' w3 w4 w5 T0 T1 T2 T3 T4 T5' nf0 nf1' nf2' nf3 nf4 nf5 G0 a1 a2 hO
            have x1 : Dt K G b (.ref v1) (.tuple [.str "InvalidName", .tuple [.str "A"]]) := by tm_at "dt"
            have x2 : Dt K G b (.ref v3) (.tuple [.str "InvalidPiece", .tuple [.int 9]]) := by tm_at "dt"
            have x3 : Dt K G b (.ref v5) (.tuple [.str "DuplicateName", .tuple [.str z0]]) := by tm_at "dt"
            have x4 : Dt K G b (.ref v7) (.tuple [.str "InvalidOutside", .tuple [.int (-1)]]) := by tm_at "dt"
            have x5 : Dt K G b (.ref v9') (.tuple [.str "InvalidOutside", .tuple [.int 0]]) := by tm_at "dt"
            clear q1 q2 q3 q4 q5 q6 q7 q8 q9 q10 b1 b2 b3 b4 b5 b6 b7 b8 b9 b10 b11 b12 b13 b14 b15 b16 b17 b18 b19 b20
            iterate 24 (tm_at "go1")
            rename_i ta K1 kn1 ks1 ke1 _ _
            replace ke1 : K1 ta = some (.tup [.int 16]) := ke1
            tm_at "go"
            exact k' _
end

open Lend LamX NdefX SupX DicX
section
variable {P : Program} {w : World} {K : PySem.W.Frag} {mg : Str → Option Value} {base : Heap} {Z : Fs}
theorem pr2 {α β : Type} {R : α → β → Prop} {a : α} {as : List α} {z : β} {zs : List β} (h : Paired R (a :: as) (z :: zs)) : R a z ∧ Paired R as zs := by
  cases h with
  | cons h0 h1 => exact ⟨h0, h1⟩
/-- nine of a kind -/
theorem nine {α β : Type} {R : α → β → Prop} {as : List α} {z0 z1 z2 z3 z4 z5 z6 z7 z8 : β} (h : Paired R as [z0, z1, z2, z3, z4, z5, z6, z7, z8]) : ∃ a0 a1 a2 a3 a4 a5 a6 a7 a8, as = [a0, a1, a2, a3, a4, a5, a6, a7, a8] := by
  match as, Paired.length h with
  | [a0, a1, a2, a3, a4, a5, a6, a7, a8], _ => exact ⟨a0, a1, a2, a3, a4, a5, a6, a7, a8, rfl⟩
theorem five {α β : Type} {R : α → β → Prop} {as : List α} {z0 z1 z2 z3 z4 : β} (h : Paired R as [z0, z1, z2, z3, z4]) : ∃ a0 a1 a2 a3 a4, as = [a0, a1, a2, a3, a4] := by
  match as, Paired.length h with
  | [a0, a1, a2, a3, a4], _ => exact ⟨a0, a1, a2, a3, a4, rfl⟩
theorem i_objD {k : Ko} {C CP b a : Addr} {H : Hp} {Q : VK} {E : XK} {n : Str} (hn : Nm n) (h1 : SqT K H a [])
    (ok : ∀ (H' : Hp) (x q1 q2 : Addr), Same H H' → H x = none → H q1 = none → H q2 = none → Ob H' C x q1 q2 (.str n) [] [] → Q (.ref x) H') : MkP (fun ws => StkX.Rest 2 (sp_objI K C CP k) ws (.ref a)) C E [.str n] H Q := by
  refine i_obj (b := b) (d := .str n) (os := []) (lot := some []) (.str hn.strK) (fun c => by rw [nmV_of hn] at c; cases c) .nil (Nat.zero_le _) (.seq (.inr h1) .nil (Nat.zero_le _)) (fun e ys h => by rw [objE_nil (nmV_of hn)] at h; cases h) fun ys _ hy => ?_
  cases hy
  exact ok
theorem Paired.snoc {α β : Type} {R : α → β → Prop} {as : List α} {zs : List β} {i : Nat} {x : α} {y : β} (h : Paired R as (zs.take i)) (hy : zs[i]? = some y) (r : R x y) : Paired R (as ++ [x]) (zs.take (i + 1)) := by
  rw [List.take_add_one, hy]
  exact Paired.app h (.cons r .nil)
theorem Ob.pc {H : Hp} {C x q1 q2 : Addr} {z : Str} {xs ys : List V} (h : Ob H C x q1 q2 (.str z) xs ys) : Pc H C x z := let ⟨dx, fs, h1, h2⟩ := h.ex; ⟨dx, fs, h1, h2.name⟩
theorem methW {K : PySem.W.Frag} {C CP x q1 q2 : Addr} {k : Ko} {nm : V} {xs ys : List V} {σ : L2.St} {H : Hp} {Q : VK} {E : XK} {i : Nat} {t : TA} (hv : σ[i]? = some (some (.ref x))) (h : Ob H C x q1 q2 nm xs ys) (q : t σ H fun vs H2 => sp_with K C CP k (.ref x :: (vs ++ [])) H2 Q E) : tMeth C "with_piece" (sp_with K C CP k) [] E (tVar i) t σ H Q := by
  obtain ⟨dx, fs, hx, of⟩ := h.ex
  exact ⟨_, hv, x, dx, fs, rfl, hx, of.no _ (by decide) (by decide) (by decide), q⟩
theorem i_withE {K : PySem.W.Frag} {C CP b x q1 q2 : Addr} {k : Ko} {n : Str} {xs ys : List V} {ds : List PyData} {ns : List Str} {v : V} {o : Option Str} {H : Hp} {Q : VK} {E : XK} {o' : Option (EKind × List V)} (hO : Ob H C x q1 q2 (.str n) xs ys) (hn : Nm n) (hp : Paired (Ofc K H CP) xs (ns.map some)) (hl : xs.length ≤ 50) (hd : Paired (Dt K H b) ys ds) (hl2 : ys.length ≤ 100) (hv : Ofc K H CP v o)
    (ho : objE k (.str n) (wpl (ns.map some) o (wpi ns o)) (some ys) false = o') (en : EndsSo o' H Q E) : sp_with K C CP k [.ref x, v] H Q E :=
  ⟨b, x, q1, q2, n, xs, ys, ds, ns, v, o, rfl, hO, hn, hp, hl, hd, hl2, hv, objE_ends (ho.symm ▸ en), fun h H' x' p1 p2 s _ _ _ _ => ends_ok (ho.symm ▸ en) h _ _ s⟩
theorem i_withO {K : PySem.W.Frag} {C CP b x q1 q2 : Addr} {k : Ko} {n : Str} {xs ys : List V} {ds : List PyData} {ns : List Str} {v : V} {o : Option Str} {H : Hp} {Q : VK} {E : XK} (hO : Ob H C x q1 q2 (.str n) xs ys) (hn : Nm n) (hp : Paired (Ofc K H CP) xs (ns.map some)) (hl : xs.length ≤ 50) (hd : Paired (Dt K H b) ys ds) (hl2 : ys.length ≤ 100) (hv : Ofc K H CP v o)
    (ho : objE k (.str n) (wpl (ns.map some) o (wpi ns o)) (some ys) false = none) (ok : ∀ (H' : Hp) (x' p1 p2 : Addr), Same H H' → H x' = none → H p1 = none → H p2 = none → Ob H' C x' p1 p2 (.str n) (wpl xs v (wpi ns o)) ys → Q (.ref x') H') : sp_with K C CP k [.ref x, v] H Q E :=
  ⟨b, x, q1, q2, n, xs, ys, ds, ns, v, o, rfl, hO, hn, hp, hl, hd, hl2, hv, (fun e zs h => by rw [ho] at h; cases h), fun _ => ok⟩
theorem wpi_none {ns : List Str} {m : Str} (h : ¬ m ∈ ns) : wpi ns (some m) = none := findIdx_none fun j y _ hy => decide_eq_false fun z => h (z ▸ List.mem_of_getElem? hy)
theorem wpi_at {m : Str} : ∀ {ns : List Str} {i : Nat}, ns.Nodup → ns[i]? = some m → wpi ns (some m) = some i
  | n :: r, 0, _, h => by
    cases h
    unfold wpi
    dsimp only
    rw [List.findIdx?_cons, decide_eq_true rfl]
    rfl
  | n :: r, i + 1, nd, h => by
    obtain ⟨h1, h2⟩ := List.nodup_cons.mp nd
    have hm : r[i]? = some m := h
    have ne : decide (n = m) = false := decide_eq_false fun z => h1 (z ▸ List.mem_of_getElem? hm)
    have ih : r.findIdx? (fun y => decide (y = m)) = some i := wpi_at (ns := r) h2 hm
    unfold wpi
    dsimp only
    rw [List.findIdx?_cons, ne, ih]
    rfl
theorem nineP {α β : Type} {R : α → β → Prop} {a0 a1 a2 a3 a4 a5 a6 a7 a8 : α} {z0 z1 z2 z3 z4 z5 z6 z7 z8 : β} (h : Paired R [a0, a1, a2, a3, a4, a5, a6, a7, a8] [z0, z1, z2, z3, z4, z5, z6, z7, z8]) : R a0 z0 ∧ R a1 z1 ∧ R a2 z2 ∧ R a3 z3 ∧ R a4 z4 ∧ R a5 z5 ∧ R a6 z6 ∧ R a7 z7 ∧ R a8 z8 := by
  have ⟨h0, h⟩ := pr2 h
  have ⟨h1, h⟩ := pr2 h
  have ⟨h2, h⟩ := pr2 h
  have ⟨h3, h⟩ := pr2 h
  have ⟨h4, h⟩ := pr2 h
  have ⟨h5, h⟩ := pr2 h
  have ⟨h6, h⟩ := pr2 h
  have ⟨h7, h⟩ := pr2 h
  have ⟨h8, h⟩ := pr2 h
  exact ⟨h0, h1, h2, h3, h4, h5, h6, h7, h8⟩
theorem fiveP {α β : Type} {R : α → β → Prop} {a0 a1 a2 a3 a4 : α} {z0 z1 z2 z3 z4 : β} (h : Paired R [a0, a1, a2, a3, a4] [z0, z1, z2, z3, z4]) : R a0 z0 ∧ R a1 z1 ∧ R a2 z2 ∧ R a3 z3 ∧ R a4 z4 := by
  have ⟨h0, h⟩ := pr2 h
  have ⟨h1, h⟩ := pr2 h
  have ⟨h2, h⟩ := pr2 h
  have ⟨h3, h⟩ := pr2 h
  have ⟨h4, h⟩ := pr2 h
  exact ⟨h0, h1, h2, h3, h4⟩
theorem nmA : Nm "a" := ⟨by decide +kernel, by decide +kernel, by decide +kernel⟩
theorem ar_ok {k : Ko} {kb : Addr} {nm : V} {ns : List Str} (h : nmV nm = true) (w : ns.length ≤ 4) (nd : ns.Nodup) : archE k kb nm (ns.map some) = none := by
  rw [archE4 h (fi_some ns) (by rw [List.length_map]; omega), fm_some, dupE, dupA_cl nd fun _ _ => List.not_mem_nil]
  rfl
theorem ar_many {k : Ko} {kb : Addr} {nm : V} {ns : List Str} (h : nmV nm = true) (w : 4 < ns.length) : archE k kb nm (ns.map some) = some (kMn k.m, [.int 4]) := archE3 h (fi_some ns) (by rw [List.length_map]; exact w)
def sp_full_so (TT : List (Addr × Str)) : Sp := fun vs H Q _ => ∃ (b l p : Addr) (zs : List Str), vs = [.ref p] ∧ Bag H b l ∧ Tabs TT H ∧ H p = some (.lst (zs.map V.str)) ∧ p ≠ b ∧ Ns zs ∧ ∀ H' : Hp, Q (.bl true) H'
theorem ok_full_so {k : Ko} {ks : Ks} {kb cc pp c2 p2 : Addr} {TT : List (Addr × Str)} (T : Txt K w mg Z) (L : La P K mg k kb) (LP : Lg P K mg ks)
    (hc2 : Z.d_law_wide_so.code = .ref c2) (TB2 : TabB base mg c2 p2) (hm2 : (p2, QL "_law_wide_so") ∈ TT) (hu2 : ∀ p ∈ TT, p.1 = p2 → p.2 = QL "_law_wide_so")
    (hc : Z.d_law_full_so.code = .ref cc) (TB_law_full_so : TabB base mg cc pp) (hm_law_full_so : (pp, QL "_law_full_so") ∈ TT) (hu_law_full_so : ∀ p ∈ TT, p.1 = pp → p.2 = QL "_law_full_so") :
    FnOk P w K mg base CX0 21 Z.a_law_full_so Z.d_law_full_so ["_law_pool"] (sp_full_so TT) := by
  have G_law_wide_so := ok_wide_so (P := P) (base := base) T L hc2 TB2 hm2 hu2
  have G_law_small_piece := ok_small_piece (P := P) (base := base) T LP
  have G_Object___init__ := ok_ObjectD (base := base) T L.L
  have G_Object___init__W := ok_ObjectW (base := base) T L.L
  have G_Archive___init__ := ok_ArchiveS (base := base) T L
  have G_Object_with_piece := ok_with_piece (base := base) T L.L
  have G_Object___len__ := ok_Object_len (P := P) (base := base) T
  have G_Archive___len__ := ok_Archive_len (P := P) (base := base) T
  have G_Object_outside := ok_Object_outside (P := P) (base := base) T
  have G_law_whys := ok_whys7 (P := P) (w := w) (base := base) T L
  have G_law_same := ok_law_same (P := P) (base := base) T 4
  obtain ⟨oc, od, kV, doc, pm, an, cdv, ct, osl, e, lk, hcd⟩ := T.F_law_full_so.ex
  rw [e] at lk hc ⊢
  obtain rfl : cdv = .ref cc := hc
  refine fn_of lk hcd sc_law_full_so (fun vs H Q E h => ?_) (fun A outer s H vs Q E hr h => ?_)
  · obtain ⟨b, l, p, zs, rfl, _⟩ := h
    rfl
  · obtain ⟨b, l, p, zs, rfl, hB, hT, hp, npb, N, k'⟩ := h
    refine ⟨_, PSs.nox (C8.pss_cut (ps_asg (pe_tup (pa_cons (pe_lc (own := [("_law_own", 3)]) (g := gName 3) (tt := tYes) rfl sc_law_full_so.nd (pi_list (pe_slice (sl_list : SlR _ (rSlL K)) (pv 0) po_none (po_some pe_int))) (blkOk_by (N := N_law_full_so) (sc := defScope s_law_full_so) (by decide +kernel)) (fun _ _ _ _ _ => pg_name (i := 3) sc_law_full_so.nd rfl (Or.inl rfl)) (fun _ _ _ _ _ => pts_nil) (fun _ _ _ _ _ => (pe_call G_law_small_piece (hr.mono (by omega)) (by rfl) T.m_law_small_piece T.F_law_small_piece.kp T.b_law_small_piece .nil LendN.passF (pa_cons (pv 3) pa_nil)))) (pa_cons (pe_lc (own := [("_law_own", 3)]) (g := gName 3) (tt := tYes) rfl sc_law_full_so.nd (pi_list (pe_slice (sl_list : SlR _ (rSlL K)) (pv 0) po_none (po_some pe_int))) (blkOk_by (N := N_law_full_so) (sc := defScope s_law_full_so) (by decide +kernel)) (fun _ _ _ _ _ => pg_name (i := 3) sc_law_full_so.nd rfl (Or.inl rfl)) (fun _ _ _ _ _ => pts_nil) (fun _ _ _ _ _ => (StX.pe_makeR T.mk_Object G_Object___init__ (hr.mono (by omega)) (by rfl) T.m_Object LendN.passF (pa_cons (pv 3) pa_nil)))) pa_nil))) (pg_tup (by rfl) (pgs_cons (pg_name (i := 1) sc_law_full_so.nd rfl (Or.inr rfl)) (pgs_cons (pg_name (i := 2) sc_law_full_so.nd rfl (Or.inr rfl)) pgs_nil))))
      (C8.pss_cut (ps_asg (pe_tup (pa_cons (pe_op op_cat (pe_slice (sl_list : SlR _ (rSlL K)) (pv 1) po_none (po_some pe_int)) (pe_lst (pa_cons (pe_ix (ix_list : IxR _ (rIxL K)) (pv 1) pe_int (fun _ _ => rfl)) (pa_cons (pe_ix (ix_list : IxR _ (rIxL K)) (pv 1) pe_int (fun _ _ => rfl)) pa_nil)))) (pa_cons (StkX.pe_makeRW T.mk_Object G_Object___init__W (hr.mono (by omega)) (by rfl) T.m_Object LendN.passF (pa_cons pe_str (pa_cons (pe_ix (ix_list : IxR _ (rIxL K)) (pv 1) pe_int (fun _ _ => rfl)) (pa_cons (pe_ix (ix_list : IxR _ (rIxL K)) (pv 1) pe_int (fun _ _ => rfl)) (pa_cons (pe_ix (ix_list : IxR _ (rIxL K)) (pv 1) pe_int (fun _ _ => rfl)) (pa_cons (pe_ix (ix_list : IxR _ (rIxL K)) (pv 1) pe_int (fun _ _ => rfl)) (pa_cons (pe_ix (ix_list : IxR _ (rIxL K)) (pv 1) pe_int (fun _ _ => rfl)) (pa_cons (pe_ix (ix_list : IxR _ (rIxL K)) (pv 1) pe_int (fun _ _ => rfl)) (pa_cons (pe_ix (ix_list : IxR _ (rIxL K)) (pv 1) pe_int (fun _ _ => rfl)) (pa_cons (pe_ix (ix_list : IxR _ (rIxL K)) (pv 1) pe_int (fun _ _ => rfl)) pa_nil))))))))) (pk_cons (pe_slice (sl_list : SlR _ (rSlL K)) (pv 0) (po_some pe_int) (po_some pe_int)) pk_nil)) pa_nil))) (pg_tup (by rfl) (pgs_cons (pg_name (i := 4) sc_law_full_so.nd rfl (Or.inr rfl)) (pgs_cons (pg_name (i := 5) sc_law_full_so.nd rfl (Or.inr rfl)) pgs_nil))))
      (pss_cons (ps_set (i := 6) sc_law_full_so.nd rfl (Or.inl rfl) (pe_lst (pa_cons (Lend.pe_lam0 (T := TT) TB_law_full_so rfl hm_law_full_so hu_law_full_so (LendN.free_ok (by decide +kernel)) rfl) (pa_cons (Lend.pe_lam1 (T := TT) TB_law_full_so rfl hm_law_full_so hu_law_full_so (LendN.free_ok (by decide +kernel)) rfl rfl pe_int) (pa_cons (Lend.pe_lam1 (T := TT) TB_law_full_so rfl hm_law_full_so hu_law_full_so (LendN.free_ok (by decide +kernel)) rfl rfl pe_int) (pa_cons (Lend.pe_lam1 (T := TT) TB_law_full_so rfl hm_law_full_so hu_law_full_so (LendN.free_ok (by decide +kernel)) rfl rfl pe_int) (pa_cons (Lend.pe_lam1 (T := TT) TB_law_full_so rfl hm_law_full_so hu_law_full_so (LendN.free_ok (by decide +kernel)) rfl rfl pe_int) (pa_cons (Lend.pe_lam1 (T := TT) TB_law_full_so rfl hm_law_full_so hu_law_full_so (LendN.free_ok (by decide +kernel)) rfl rfl pe_int) (pa_cons (Lend.pe_lam1 (T := TT) TB_law_full_so rfl hm_law_full_so hu_law_full_so (LendN.free_ok (by decide +kernel)) rfl rfl pe_int) (pa_cons (Lend.pe_lam1 (T := TT) TB_law_full_so rfl hm_law_full_so hu_law_full_so (LendN.free_ok (by decide +kernel)) rfl rfl pe_int) (pa_cons (Lend.pe_lam1 (T := TT) TB_law_full_so rfl hm_law_full_so hu_law_full_so (LendN.free_ok (by decide +kernel)) rfl rfl pe_int) (pa_cons (Lend.pe_lam1 (T := TT) TB_law_full_so rfl hm_law_full_so hu_law_full_so (LendN.free_ok (by decide +kernel)) rfl rfl pe_int) (pa_cons (Lend.pe_lam1 (T := TT) TB_law_full_so rfl hm_law_full_so hu_law_full_so (LendN.free_ok (by decide +kernel)) rfl rfl pe_int) (pa_cons (Lend.pe_lam1 (T := TT) TB_law_full_so rfl hm_law_full_so hu_law_full_so (LendN.free_ok (by decide +kernel)) rfl rfl pe_int) (pa_cons (Lend.pe_lam1 (T := TT) TB_law_full_so rfl hm_law_full_so hu_law_full_so (LendN.free_ok (by decide +kernel)) rfl rfl pe_int) pa_nil)))))))))))))))
      (pss_cons (ps_set (i := 7) sc_law_full_so.nd rfl (Or.inl rfl) (pe_lst (pa_cons (pe_tup (pa_cons pe_str (pa_cons pe_non pa_nil))) (pa_cons (pe_tup (pa_cons pe_str (pa_cons (pe_tup (pa_cons pe_int pa_nil)) pa_nil))) (pa_cons (pe_tup (pa_cons pe_str (pa_cons (pe_tup (pa_cons pe_int pa_nil)) pa_nil))) (pa_cons (pe_tup (pa_cons pe_str (pa_cons (pe_tup (pa_cons pe_int pa_nil)) pa_nil))) (pa_cons (pe_tup (pa_cons pe_str (pa_cons (pe_tup (pa_cons pe_int pa_nil)) pa_nil))) (pa_cons (pe_tup (pa_cons pe_str (pa_cons (pe_tup (pa_cons pe_int pa_nil)) pa_nil))) (pa_cons (pe_tup (pa_cons pe_str (pa_cons (pe_tup (pa_cons pe_int pa_nil)) pa_nil))) pa_nil)))))))))
      (pss_cons (ps_set (i := 7) sc_law_full_so.nd rfl (Or.inl rfl) (pe_op op_cat (pv 7) (pe_lst (pa_cons (pe_tup (pa_cons pe_str (pa_cons pe_non pa_nil))) (pa_cons (pe_tup (pa_cons pe_str (pa_cons (pe_tup (pa_cons pe_int pa_nil)) pa_nil))) (pa_cons (pe_tup (pa_cons pe_str (pa_cons pe_non pa_nil))) (pa_cons (pe_tup (pa_cons pe_str (pa_cons (pe_tup (pa_cons pe_int pa_nil)) pa_nil))) (pa_cons (pe_tup (pa_cons pe_str (pa_cons (pe_tup (pa_cons pe_int pa_nil)) pa_nil))) (pa_cons (pe_tup (pa_cons pe_str (pa_cons (pe_tup (pa_cons pe_str pa_nil)) pa_nil))) pa_nil)))))))))
      (pss_one (ps_ret (pe_and (pe_call G_law_same (hr.mono (by omega)) (by rfl) T.m_law_same T.F_law_same.kp T.b_law_same .nil pass0 (pa_cons (LendN.pe_callW [("_law_pool", 0), ("_law_p", 1), ("_law_o", 2), ("_law_twice", 4), ("_law_eight", 5)] G_law_whys (hr.mono (by omega)) (by rfl) T.m_law_whys T.F_law_whys.kp T.b_law_whys .nil (pa_cons (pv 6) pa_nil)) (pa_cons (pv 7) pa_nil))) (pe_and (pe_call G_law_same (hr.mono (by omega)) (by rfl) T.m_law_same T.F_law_same.kp T.b_law_same .nil pass0 (pa_cons (pe_meth0 (pv 5) T.cl_Object T.M_Object_outside G_Object_outside (hr.mono (by omega)) T.b_Object_outside .nil pass0) (pa_cons (pe_slice (sl_list : SlR _ (rSlL K)) (pv 0) (po_some pe_int) (po_some pe_int)) pa_nil))) (pe_one (pe_call G_law_wide_so (hr.mono (by omega)) (by rfl) T.m_law_wide_so T.F_law_wide_so.kp T.b_law_wide_so .nil pass0 (pa_cons (pv 0) (pa_cons (pv 1) pa_nil))))))))))))), ?_⟩
    rw [show L2.start N_law_full_so [V.ref p] = [some (V.ref p), none, none, none, none, none, none, none] from rfl]
    try dsimp only [cxOf, Cx.nox]
    have l17 := N.len
    have nt := fun k => N.sub (List.take_sublist k zs)
    have nD := fun k => N.sub (List.drop_sublist k zs)
    refine Go.cut (fun σ' H' => ∃ (q o : Addr) (as os : List Addr), σ' = [some (.ref p), some (.ref q), some (.ref o), none, none, none, none, none] ∧ Bag H' b l ∧ Tabs TT H' ∧ H' p = some (.lst (zs.map V.str)) ∧ H' q = some (.lst (as.map V.ref)) ∧ Paired (Pc H' Z.C_Piece) as (zs.take 9) ∧ H' o = some (.lst (os.map V.ref)) ∧ Paired (Pc H' Z.C_Object) os (zs.take 5)) ?_ ?_
    · tm_at "go"
      rename_i c9 A1 n1 s1 e1 _ _
      have e1 := cutS_take (k := 9) (by omega) e1
      obtain ⟨n9, hn9⟩ : ∃ n9, n9 = zs.take 9 := ⟨_, rfl⟩
      have v9 : ∀ z ∈ n9, Nm z := by rw [hn9]; exact (nt 9).2
      have l9 : n9.length = 9 := by rw [hn9, List.length_take, l17]; rfl
      rw [← hn9] at e1 ⊢
      refine Go.lc_w (walk_list (K := K) (xs := n9.map V.str)) (fun L i H' => Same H H' ∧ H L = none ∧ c9 ≠ L ∧ i ≤ n9.length ∧ H' c9 = some (.lst (n9.map V.str)) ∧ ∃ as : List Addr, H' L = some (.lst (as.map V.ref)) ∧ Paired (Pc H' Z.C_Piece) as (n9.take i)) (by tm_at "wipe") ?_ ?_ ?_ ?_
      · intro L H2 n0 s2 e2
        exact ⟨s1.trans s2, Go.freeS s1 n0, ne_of_none e1 n0, Nat.zero_le _, s2 _ _ e1, [], e2, .nil⟩
      · intro L i H2 hi ⟨_, _, _, _, e2, _⟩
        exact SqL.of e2
      · rintro L i v H2 H3 hi ⟨s2, nL, ncL, li, ec, as, e2, hP⟩ ⟨rfl, hv⟩
        rw [List.length_map] at hi
        rw [List.getElem?_map] at hv
        obtain ⟨z, hz, rfl⟩ := Option.map_eq_some_iff.mp hv
        have nz := v9 z (List.mem_of_getElem? hz)
        have la : as.length ≤ 100 := by rw [Paired.length hP, List.length_take]; omega
        tm_at "go"
        refine i_small nz fun H4 x dx fs s4 nx ex lx => ?_
        have e4 := s4 _ _ e2
        refine Go.lcEnd e4 (Go.lt_line (by rw [List.length_map]; omega)) fun H6 s6 e6 => ?_
        refine ⟨Go.Same.own (s2.trans s4) nL s6, nL, ncL, by omega, s6 _ _ ncL (s4 _ _ ec), as ++ [x], by rw [e6, List.map_append]; rfl, Paired.snoc (Paired.mapP hP fun _ _ e => (e.same s4).but s6 e4) hz (Pc.but s6 e4 ⟨dx, fs, ex, lx⟩)⟩
      · rintro q A2 ⟨s2, nq, _, _, _, as, e2, hP⟩
        rw [List.length_map, List.take_length] at hP
        tm_at "go"
        rename_i c5 A3 n3 s3 e3 _ _
        have e3 := cutS_take (k := 5) (by omega) e3
        obtain ⟨n5, hn5⟩ : ∃ n5, n5 = zs.take 5 := ⟨_, rfl⟩
        have v5 : ∀ z ∈ n5, Nm z := by rw [hn5]; exact (nt 5).2
        have l5 : n5.length = 5 := by rw [hn5, List.length_take, l17]; rfl
        rw [← hn5] at e3 ⊢
        have S3 : Same H A3 := s2.trans s3
        refine Go.lc_w (walk_list (K := K) (xs := n5.map V.str)) (fun L i H' => Same A3 H' ∧ A3 L = none ∧ c5 ≠ L ∧ i ≤ n5.length ∧ H' c5 = some (.lst (n5.map V.str)) ∧ ∃ os : List Addr, H' L = some (.lst (os.map V.ref)) ∧ Paired (Pc H' Z.C_Object) os (n5.take i)) (by tm_at "wipe") ?_ ?_ ?_ ?_
        · intro L H2 n0 s2 e2
          exact ⟨s2, n0, ne_of_none e3 n0, Nat.zero_le _, s2 _ _ e3, [], e2, .nil⟩
        · intro L i H2 hi ⟨_, _, _, _, e2, _⟩
          exact SqL.of e2
        · rintro L i v H2 H3 hi ⟨s2, nL, ncL, li, ec, os, e2, hO⟩ ⟨rfl, hv⟩
          rw [List.length_map] at hi
          rw [List.getElem?_map] at hv
          obtain ⟨z, hz, rfl⟩ := Option.map_eq_some_iff.mp hv
          have nz := v5 z (List.mem_of_getElem? hz)
          have la : os.length ≤ 100 := by rw [Paired.length hO, List.length_take]; omega
          tm_at "go"
          refine i_objD (b := b) nz (T.v_e_Object___init___outside _) fun H4 x q1 q2 s4 nx _ _ hx => ?_
          have e4 := s4 _ _ e2
          refine Go.lcEnd e4 (Go.lt_line (by rw [List.length_map]; omega)) fun H6 s6 e6 => ?_
          refine ⟨Go.Same.own (s2.trans s4) nL s6, nL, ncL, by omega, s6 _ _ ncL (s4 _ _ ec), os ++ [x], by rw [e6, List.map_append]; rfl, Paired.snoc (Paired.mapP hO fun _ _ e => (e.same s4).but s6 e4) hz (Pc.but s6 e4 hx.pc)⟩
        · rintro o A4 ⟨s4, no, _, _, _, os, e4, hO⟩
          rw [List.length_map, List.take_length] at hO
          tm_at "go"
          rename_i tq A5 n5' s5 e5 _ _
          have S5 : Same H A5 := (S3.trans s4).trans s5
          exact ⟨q, o, as, os, rfl, hB.same S5, tabS S5 hT, S5 _ _ hp, s5 _ _ (s4 _ _ (s3 _ _ e2)), Paired.mapP hP fun _ _ e => ((e.same s3).same s4).same s5, s5 _ _ e4, Paired.mapP hO fun _ _ e => e.same s5⟩
    · rintro σ' B0 ⟨q, o, as, os, rfl, BB, TT0, fp, fq, fP, fo, fO⟩
      clear hB hT hp
      obtain ⟨z0, z1, z2, z3, z4, z5, z6, z7, z8, z9, z10, z11, z12, z13, z14, z15, z16, rfl⟩ := seventeen l17
      obtain ⟨a0, a1, a2, a3, a4, a5, a6, a7, a8, rfl⟩ := nine (z0 := z0) (z1 := z1) (z2 := z2) (z3 := z3) (z4 := z4) (z5 := z5) (z6 := z6) (z7 := z7) (z8 := z8) fP
      obtain ⟨o0, o1, o2, o3, o4, rfl⟩ := five (z0 := z0) (z1 := z1) (z2 := z2) (z3 := z3) (z4 := z4) fO
      replace fp : B0 p = some (.lst [.str z0, .str z1, .str z2, .str z3, .str z4, .str z5, .str z6, .str z7, .str z8, .str z9, .str z10, .str z11, .str z12, .str z13, .str z14, .str z15, .str z16]) := fp
      replace fq : B0 q = some (.lst [.ref a0, .ref a1, .ref a2, .ref a3, .ref a4, .ref a5, .ref a6, .ref a7, .ref a8]) := fq
      replace fo : B0 o = some (.lst [.ref o0, .ref o1, .ref o2, .ref o3, .ref o4]) := fo
      replace fP : Paired (Pc B0 Z.C_Piece) [a0, a1, a2, a3, a4, a5, a6, a7, a8] [z0, z1, z2, z3, z4, z5, z6, z7, z8] := fP
      replace fO : Paired (Pc B0 Z.C_Object) [o0, o1, o2, o3, o4] [z0, z1, z2, z3, z4] := fO
      have nd16 : ([z0, z1, z2, z3, z4, z5, z6, z7] ++ [z8, z9, z10, z11, z12, z13, z14, z15]).Nodup := (nt 16).1
      have nd9 : [z0, z1, z2, z3, z4, z5, z6, z7, z8].Nodup := (nt 9).1
      have nd8 : [z0, z1, z2, z3, z4, z5, z6, z7].Nodup := (nt 8).1
      have nd4 : [z0, z1, z2, z3].Nodup := (nt 4).1
      have nmz : ∀ z ∈ [z0, z1, z2, z3, z4, z5, z6, z7, z8, z9, z10, z11, z12, z13, z14, z15, z16], Nm z := N.nm
      have nm8 : ∀ z ∈ [z8, z9, z10, z11, z12, z13, z14, z15], Nm z := fun z m => nmz z ((List.take_sublist 16 _).subset (List.mem_append_right [z0, z1, z2, z3, z4, z5, z6, z7] m))
      have nm9 : ∀ z ∈ [z0, z1, z2, z3, z4, z5, z6, z7, z8], Nm z := (nt 9).2
      refine Go.cut (fun σ' H' => ∃ tw eg v1 v2 : Addr, σ' = [some (.ref p), some (.ref q), some (.ref o), none, some (.ref tw), some (.ref eg), none, none] ∧ Bag H' b l ∧ Tabs TT H' ∧ H' p = some (.lst [.str z0, .str z1, .str z2, .str z3, .str z4, .str z5, .str z6, .str z7, .str z8, .str z9, .str z10, .str z11, .str z12, .str z13, .str z14, .str z15, .str z16]) ∧ H' q = some (.lst [.ref a0, .ref a1, .ref a2, .ref a3, .ref a4, .ref a5, .ref a6, .ref a7, .ref a8]) ∧ Paired (Pc H' Z.C_Piece) [a0, a1, a2, a3, a4, a5, a6, a7, a8] [z0, z1, z2, z3, z4, z5, z6, z7, z8] ∧ H' o = some (.lst [.ref o0, .ref o1, .ref o2, .ref o3, .ref o4]) ∧ Paired (Pc H' Z.C_Object) [o0, o1, o2, o3, o4] [z0, z1, z2, z3, z4] ∧
        H' tw = some (.lst [.ref a0, .ref a1, .ref a2, .ref a3, .ref a4, .ref a5, .ref a6, .ref a0, .ref a0]) ∧ Ob H' Z.C_Object eg v1 v2 (.str "a") [.ref a0, .ref a1, .ref a2, .ref a3, .ref a4, .ref a5, .ref a6, .ref a7] [.str z8, .str z9, .str z10, .str z11, .str z12, .str z13, .str z14, .str z15]) ?_ ?_
      · have okE : objE k (.str "a") ([z0, z1, z2, z3, z4, z5, z6, z7].map some) (some ([z8, z9, z10, z11, z12, z13, z14, z15].map V.str)) false = none := ob_ok (by decide +kernel) (.inr ⟨Nat.le_of_ble_eq_true rfl, Nat.le_of_ble_eq_true rfl⟩) nd16 nm8
        have hO8 : Paired (Ofc K B0 Z.C_Piece) ([.ref a0, .ref a1, .ref a2, .ref a3, .ref a4, .ref a5, .ref a6, .ref a7]) ([z0, z1, z2, z3, z4, z5, z6, z7].map some) := Paired.take 8 (pcs_ofc (n := T.n_Piece_name) fP nm9)
        tm_at "go"
        rename_i x7 A1 n1 s1 e1 _ _ x2 A2 n2 s2 e2 _ _ tw A3 n3 s3 e3 b3 l3 u A4 n4 s4 e4 _ _
        replace e3 : A3 tw = some (.lst [.ref a0, .ref a1, .ref a2, .ref a3, .ref a4, .ref a5, .ref a6, .ref a0, .ref a0]) := e3
        replace e4 : A4 u = some (.lst [.str z8, .str z9, .str z10, .str z11, .str z12, .str z13, .str z14, .str z15]) := e4
        have S4 : Same B0 A4 := ((s1.trans s2).trans s3).trans s4
        refine i_obj (b := b) (d := .str "a") (xs := [.ref a0, .ref a1, .ref a2, .ref a3, .ref a4, .ref a5, .ref a6, .ref a7]) (os := [z0, z1, z2, z3, z4, z5, z6, z7].map some) (lot := some ([z8, z9, z10, z11, z12, z13, z14, z15].map V.str)) (by tm_at "dt") (by tm_at "shw") (Paired.mapP hO8 fun _ _ e => e.same S4) (Nat.le_of_ble_eq_true rfl) (.seq (.inl (SqL.of e4)) (dtsN nm8) (Nat.le_of_ble_eq_true rfl)) (fun e ys h => by rw [okE] at h; cases h) fun ys _ hy A5 eg v1 v2 s5 _ _ _ hE => ?_
        cases hy
        tm_at "go"
        rename_i tq A6 n6 s6 e6 _ _
        have S6 : Same B0 A6 := (S4.trans s5).trans s6
        exact ⟨tw, eg, v1, v2, rfl, BB.same S6, tabS S6 TT0, S6 _ _ fp, S6 _ _ fq, Paired.mapP fP fun _ _ e => e.same S6, S6 _ _ fo, Paired.mapP fO fun _ _ e => e.same S6, s6 _ _ (s5 _ _ (s4 _ _ e3)), hE.same s6⟩
      · clear BB TT0 fp fq fP fo fO
        rintro σ' B0 ⟨tw, eg, v1, v2, rfl, BB, TT0, fp, fq, fP, fo, fO, ft, hE⟩
        tm_at "go"
        rename_i f0 c0 dV0 do0 pm0 ct0 F0 w0 nf0 T0 hF0 hC0 hD0 f1 c1 dV1 do1 pm1 ct1 F1 w1 nf1 T1 hF1 hC1 hD1 f2 c2 dV2 do2 pm2 ct2 F2 w2 nf2 T2 hF2 hC2 hD2 f3 c3 dV3 do3 pm3 ct3 F3 w3 nf3 T3 hF3 hC3 hD3 f4 c4 dV4 do4 pm4 ct4 F4 w4 nf4 T4 hF4 hC4 hD4 f5 c5 dV5 do5 pm5 ct5 F5 w5 nf5 T5 hF5 hC5 hD5 f6 c6 dV6 do6 pm6 ct6 F6 w6 nf6 T6 hF6 hC6 hD6 f7 c7 dV7 do7 pm7 ct7 F7 w7 nf7 T7 hF7 hC7 hD7 f8 c8 dV8 do8 pm8 ct8 F8 w8 nf8 T8 hF8 hC8 hD8 f9 c9 dV9 do9 pm9 ct9 F9 w9 nf9 T9 hF9 hC9 hD9 f10 c10 dV10 do10 pm10 ct10 F10 w10 nf10 T10 hF10 hC10 hD10 f11 c11 dV11 do11 pm11 ct11 F11 w11 nf11 T11 hF11 hC11 hD11 f12 c12 dV12 do12 pm12 ct12 F12 w12 nf12 T12 hF12 hC12 hD12 ak J0 m0 j0 ea _ _ t1 J1 m1 j1 e1 b1 _ t2 J2 m2 j2 e2 b2 _ t3 J3 m3 j3 e3 b3 _ t4 J4 m4 j4 e4 b4 _ t5 J5 m5 j5 e5 b5 _ t6 J6 m6 j6 e6 b6 _ t7 J7 m7 j7 e7 b7 _ t8 J8 m8 j8 e8 b8 _ t9 J9 m9 j9 e9 b9 _ t10 J10 m10 j10 e10 b10 _ t11 J11 m11 j11 e11 b11 _ t12 J12 m12 j12 e12 b12 _ t13 J13 m13 j13 e13 b13 _ t14 J14 m14 j14 e14 b14 _ t15 J15 m15 j15 e15 b15 _ t16 J16 m16 j16 e16 b16 _ t17 J17 m17 j17 e17 b17 _ t18 J18 m18 j18 e18 b18 _ t19 J19 m19 j19 e19 b19 _ t20 J20 m20 j20 e20 b20 _ t21 J21 m21 j21 e21 b21 _ t22 J22 m22 j22 e22 b22 _ t23 J23 m23 j23 e23 b23 _ t24 J24 m24 j24 e24 b24 _ t25 J25 m25 j25 e25 b25 _ t26 J26 m26 j26 e26 b26 _
        have S26 : Same J26 J26 := Same.refl _
        have S25 := j26.trans S26
        have S24 := j25.trans S25
        have S23 := j24.trans S24
        have S22 := j23.trans S23
        have S21 := j22.trans S22
        have S20 := j21.trans S21
        have S19 := j20.trans S20
        have S18 := j19.trans S19
        have S17 := j18.trans S18
        have S16 := j17.trans S17
        have S15 := j16.trans S16
        have S14 := j15.trans S15
        have S13 := j14.trans S14
        have S12 := j13.trans S13
        have S11 := j12.trans S12
        have S10 := j11.trans S11
        have S9 := j10.trans S10
        have S8 := j9.trans S9
        have S7 := j8.trans S8
        have S6 := j7.trans S7
        have S5 := j6.trans S6
        have S4 := j5.trans S5
        have S3 := j4.trans S4
        have S2 := j3.trans S3
        have S1 := j2.trans S2
        have S0 := j1.trans S1
        have W12 : Go.Grow F12 J26 := Go.Grow.same (j0.trans S0)
        have W11 := w12.trans W12
        have W10 := w11.trans W11
        have W9 := w10.trans W10
        have W8 := w9.trans W9
        have W7 := w8.trans W8
        have W6 := w7.trans W7
        have W5 := w6.trans W6
        have W4 := w5.trans W5
        have W3 := w4.trans W4
        have W2 := w3.trans W3
        have W1 := w2.trans W2
        have W0 := w1.trans W1
        have G0 : Go.Grow B0 J26 := w0.trans W0
        have gF0 := Go.oX W0 Go.funO_ne hF0
        have gC0 := Go.oX W0 LamX.codeO_ne hC0
        have gD0 := defsX W0 hD0
        have gF1 := Go.oX W1 Go.funO_ne hF1
        have gC1 := Go.oX W1 LamX.codeO_ne hC1
        have gD1 := defsX W1 hD1
        have gF2 := Go.oX W2 Go.funO_ne hF2
        have gC2 := Go.oX W2 LamX.codeO_ne hC2
        have gD2 := defsX W2 hD2
        have gF3 := Go.oX W3 Go.funO_ne hF3
        have gC3 := Go.oX W3 LamX.codeO_ne hC3
        have gD3 := defsX W3 hD3
        have gF4 := Go.oX W4 Go.funO_ne hF4
        have gC4 := Go.oX W4 LamX.codeO_ne hC4
        have gD4 := defsX W4 hD4
        have gF5 := Go.oX W5 Go.funO_ne hF5
        have gC5 := Go.oX W5 LamX.codeO_ne hC5
        have gD5 := defsX W5 hD5
        have gF6 := Go.oX W6 Go.funO_ne hF6
        have gC6 := Go.oX W6 LamX.codeO_ne hC6
        have gD6 := defsX W6 hD6
        have gF7 := Go.oX W7 Go.funO_ne hF7
        have gC7 := Go.oX W7 LamX.codeO_ne hC7
        have gD7 := defsX W7 hD7
        have gF8 := Go.oX W8 Go.funO_ne hF8
        have gC8 := Go.oX W8 LamX.codeO_ne hC8
        have gD8 := defsX W8 hD8
        have gF9 := Go.oX W9 Go.funO_ne hF9
        have gC9 := Go.oX W9 LamX.codeO_ne hC9
        have gD9 := defsX W9 hD9
        have gF10 := Go.oX W10 Go.funO_ne hF10
        have gC10 := Go.oX W10 LamX.codeO_ne hC10
        have gD10 := defsX W10 hD10
        have gF11 := Go.oX W11 Go.funO_ne hF11
        have gC11 := Go.oX W11 LamX.codeO_ne hC11
        have gD11 := defsX W11 hD11
        have gF12 := Go.oX W12 Go.funO_ne hF12
        have gC12 := Go.oX W12 LamX.codeO_ne hC12
        have gD12 := defsX W12 hD12
        have q1 : J26 t1 = some (.tup [.str "", .non]) := S1 _ _ e1
        have q2 : J26 t2 = some (.tup [.int 8]) := S2 _ _ e2
        have q3 : J26 t3 = some (.tup [.str "TooMany", .ref t2]) := S3 _ _ e3
        have q4 : J26 t4 = some (.tup [.int 8]) := S4 _ _ e4
        have q5 : J26 t5 = some (.tup [.str "TooMany", .ref t4]) := S5 _ _ e5
        have q6 : J26 t6 = some (.tup [.int 8]) := S6 _ _ e6
        have q7 : J26 t7 = some (.tup [.str "InvalidPiece", .ref t6]) := S7 _ _ e7
        have q8 : J26 t8 = some (.tup [.int 8]) := S8 _ _ e8
        have q9 : J26 t9 = some (.tup [.str "TooMany", .ref t8]) := S9 _ _ e9
        have q10 : J26 t10 = some (.tup [.int 8]) := S10 _ _ e10
        have q11 : J26 t11 = some (.tup [.str "TooMany", .ref t10]) := S11 _ _ e11
        have q12 : J26 t12 = some (.tup [.int 8]) := S12 _ _ e12
        have q13 : J26 t13 = some (.tup [.str "TooMany", .ref t12]) := S13 _ _ e13
        have q15 : J26 t15 = some (.tup [.str "", .non]) := S15 _ _ e15
        have q16 : J26 t16 = some (.tup [.int 8]) := S16 _ _ e16
        have q17 : J26 t17 = some (.tup [.str "InvalidPiece", .ref t16]) := S17 _ _ e17
        have q18 : J26 t18 = some (.tup [.str "", .non]) := S18 _ _ e18
        have q19 : J26 t19 = some (.tup [.int 4]) := S19 _ _ e19
        have q20 : J26 t20 = some (.tup [.str "TooMany", .ref t19]) := S20 _ _ e20
        have q21 : J26 t21 = some (.tup [.int 4]) := S21 _ _ e21
        have q22 : J26 t22 = some (.tup [.str "TooMany", .ref t21]) := S22 _ _ e22
        have q23 : J26 t23 = some (.tup [.str "A"]) := S23 _ _ e23
        have q24 : J26 t24 = some (.tup [.str "InvalidName", .ref t23]) := S24 _ _ e24
        have q26 : J26 t26 = some (.lst [.ref t1, .ref t3, .ref t5, .ref t7, .ref t9, .ref t11, .ref t13, .ref t15, .ref t17, .ref t18, .ref t20, .ref t22, .ref t24]) := e26
        have BJ : Bag J26 b l := BB.grow G0
        have TJ : Tabs TT J26 := tabS (j0.trans S0) T12
        have eak := S0 _ _ ea
        clear w0 W0 nf0 T0 hF0 hC0 hD0 w1 W1 nf1 T1 hF1 hC1 hD1 w2 W2 nf2 T2 hF2 hC2 hD2 w3 W3 nf3 T3 hF3 hC3 hD3 w4 W4 nf4 T4 hF4 hC4 hD4 w5 W5 nf5 T5 hF5 hC5 hD5 w6 W6 nf6 T6 hF6 hC6 hD6 w7 W7 nf7 T7 hF7 hC7 hD7 w8 W8 nf8 T8 hF8 hC8 hD8 w9 W9 nf9 T9 hF9 hC9 hD9 w10 W10 nf10 T10 hF10 hC10 hD10 w11 W11 nf11 T11 hF11 hC11 hD11 w12 W12 nf12 T12 hF12 hC12 hD12 m1 j1 e1 S1 m2 j2 e2 S2 m3 j3 e3 S3 m4 j4 e4 S4 m5 j5 e5 S5 m6 j6 e6 S6 m7 j7 e7 S7 m8 j8 e8 S8 m9 j9 e9 S9 m10 j10 e10 S10 m11 j11 e11 S11 m12 j12 e12 S12 m13 j13 e13 S13 m14 j14 e14 S14 m15 j15 e15 S15 m16 j16 e16 S16 m17 j17 e17 S17 m18 j18 e18 S18 m19 j19 e19 S19 m20 j20 e20 S20 m21 j21 e21 S21 m22 j22 e22 S22 m23 j23 e23 S23 m24 j24 e24 S24 m25 j25 e25 S25 m26 j26 S26 S0 m0 j0 ea
        have d1 : Dt K J26 b (.ref t1) (.tuple [.str "", .none]) := by tm_at "dt"
        have d3 : Dt K J26 b (.ref t3) (.tuple [.str "TooMany", .tuple [.int 8]]) := by tm_at "dt"
        have d5 : Dt K J26 b (.ref t5) (.tuple [.str "TooMany", .tuple [.int 8]]) := by tm_at "dt"
        have d7 : Dt K J26 b (.ref t7) (.tuple [.str "InvalidPiece", .tuple [.int 8]]) := by tm_at "dt"
        have d9 : Dt K J26 b (.ref t9) (.tuple [.str "TooMany", .tuple [.int 8]]) := by tm_at "dt"
        have d11 : Dt K J26 b (.ref t11) (.tuple [.str "TooMany", .tuple [.int 8]]) := by tm_at "dt"
        have d13 : Dt K J26 b (.ref t13) (.tuple [.str "TooMany", .tuple [.int 8]]) := by tm_at "dt"
        have d15 : Dt K J26 b (.ref t15) (.tuple [.str "", .none]) := by tm_at "dt"
        have d17 : Dt K J26 b (.ref t17) (.tuple [.str "InvalidPiece", .tuple [.int 8]]) := by tm_at "dt"
        have d18 : Dt K J26 b (.ref t18) (.tuple [.str "", .none]) := by tm_at "dt"
        have d20 : Dt K J26 b (.ref t20) (.tuple [.str "TooMany", .tuple [.int 4]]) := by tm_at "dt"
        have d22 : Dt K J26 b (.ref t22) (.tuple [.str "TooMany", .tuple [.int 4]]) := by tm_at "dt"
        have d24 : Dt K J26 b (.ref t24) (.tuple [.str "InvalidName", .tuple [.str "A"]]) := by tm_at "dt"
        have xd : Dt K J26 b (.ref t26) (.list [.tuple [.str "", .none], .tuple [.str "TooMany", .tuple [.int 8]], .tuple [.str "TooMany", .tuple [.int 8]], .tuple [.str "InvalidPiece", .tuple [.int 8]], .tuple [.str "TooMany", .tuple [.int 8]], .tuple [.str "TooMany", .tuple [.int 8]], .tuple [.str "TooMany", .tuple [.int 8]], .tuple [.str "", .none], .tuple [.str "InvalidPiece", .tuple [.int 8]], .tuple [.str "", .none], .tuple [.str "TooMany", .tuple [.int 4]], .tuple [.str "TooMany", .tuple [.int 4]], .tuple [.str "InvalidName", .tuple [.str "A"]]]) := .lst (SqL.of q26) b26 (Nat.le_of_ble_eq_true rfl) (.cons d1 (.cons d3 (.cons d5 (.cons d7 (.cons d9 (.cons d11 (.cons d13 (.cons d15 (.cons d17 (.cons d18 (.cons d20 (.cons d22 (.cons d24 .nil)))))))))))))
        clear q1 q2 q3 q4 q5 q6 q7 q8 q9 q10 q11 q12 q13 q15 q16 q17 q18 q19 q20 q21 q22 q23 q24 q26 d1 d3 d5 d7 d9 d11 d13 d15 d17 d18 d20 d22 d24 b1 b2 b3 b4 b5 b6 b7 b8 b9 b10 b11 b12 b13 b14 b15 b16 b17 b18 b19 b20 b21 b22 b23 b24 b25 b26
        have fpJ : J26 p = some (.lst [.str z0, .str z1, .str z2, .str z3, .str z4, .str z5, .str z6, .str z7, .str z8, .str z9, .str z10, .str z11, .str z12, .str z13, .str z14, .str z15, .str z16]) := Go.oX G0 Go.lst_ne fp
        have fqJ : J26 q = some (.lst [.ref a0, .ref a1, .ref a2, .ref a3, .ref a4, .ref a5, .ref a6, .ref a7, .ref a8]) := Go.oX G0 Go.lst_ne fq
        have foJ : J26 o = some (.lst [.ref o0, .ref o1, .ref o2, .ref o3, .ref o4]) := Go.oX G0 Go.lst_ne fo
        have ftJ : J26 tw = some (.lst [.ref a0, .ref a1, .ref a2, .ref a3, .ref a4, .ref a5, .ref a6, .ref a0, .ref a0]) := Go.oX G0 Go.lst_ne ft
        have fPJ := Paired.mapP fP fun _ _ e => e.grow G0
        have fOJ := Paired.mapP fO fun _ _ e => e.grow G0
        have hEJ := hE.grow G0
        clear G0 fp fq fo ft fP fO hE BB TT0
        have nz9 : Nm z9 := nmz z9 (.tail _ (.tail _ (.tail _ (.tail _ (.tail _ (.tail _ (.tail _ (.tail _ (.tail _ (.head _))))))))))
        have nm5 : ∀ z ∈ [z0, z1, z2, z3, z4], Nm z := (nt 5).2
        have nd10 : ([z0, z1, z2, z3, z4, z5, z6, z7] ++ [z8, z9]).Nodup := (nt 10).1
        have n8 : ¬ z8 ∈ [z0, z1, z2, z3, z4, z5, z6, z7] := fun m => (List.nodup_append.mp nd10).2.2 z8 m z8 (.head _) rfl
        have n9 : ¬ z9 ∈ [z0, z1, z2, z3, z4, z5, z6, z7] := fun m => (List.nodup_append.mp nd10).2.2 z9 m z9 (.tail _ (.head _)) rfl
        clear nt nD l17
        refine whysW [none, some ("TooMany", [.int 8]), some ("TooMany", [.int 8]), some ("InvalidPiece", [.int 8]), some ("TooMany", [.int 8]), some ("TooMany", [.int 8]), some ("TooMany", [.int 8]), none, some ("InvalidPiece", [.int 8]), none, some ("TooMany", [.int 4]), some ("TooMany", [.int 4]), some ("InvalidName", [.str "A"])] (SqL.of eak) rfl (Nat.le_of_ble_eq_true rfl) ?_ ?_ ?_
        · intro y m
          rcases List.mem_cons.mp m with rfl | m
          · exact ⟨rfl, ⟨_, rfl⟩, (show List.lookup _ (defScope s_law_full_so).names = some .cell by decide +kernel), rfl⟩
          rcases List.mem_cons.mp m with rfl | m
          · exact ⟨rfl, ⟨_, rfl⟩, (show List.lookup _ (defScope s_law_full_so).names = some .cell by decide +kernel), rfl⟩
          rcases List.mem_cons.mp m with rfl | m
          · exact ⟨rfl, ⟨_, rfl⟩, (show List.lookup _ (defScope s_law_full_so).names = some .cell by decide +kernel), rfl⟩
          rcases List.mem_cons.mp m with rfl | m
          · exact ⟨rfl, ⟨_, rfl⟩, (show List.lookup _ (defScope s_law_full_so).names = some .cell by decide +kernel), rfl⟩
          rcases List.mem_cons.mp m with rfl | m
          · exact ⟨rfl, ⟨_, rfl⟩, (show List.lookup _ (defScope s_law_full_so).names = some .cell by decide +kernel), rfl⟩
          cases m
        · intro cs C off n x' hx
          clear xd
          match n, hx with
          | 0, hx =>
            cases hx
            refine' ask_g0 (EK := EK7 k kb) (k := 13) (N := ["_law_eight"]) (fr := ["_law_eight"]) (ws := [.ref eg]) (none) ?S0 C off (.cons (C.cap (.tail _ (.tail _ (.tail _ (.tail _ (.head _))))) rfl) .nil) ?hF0 ?hC0 ?hD0 ?hb00 ?body0 ?hk0 ?hb0
            (case hF0 => exact gF0)
            (case hC0 => exact gC0)
            (case hD0 => exact gD0)
            (case hb00 => exact rfl)
            (case S0 => exact nscope_by (by decide +kernel))
            (case body0 => exact fun A outer s H E hr => (pe_callB (c_lenO G_Object___len__ (hr.mono (by omega)) T.S_Object___len__ T.b_Object___len__ pass0) (by rfl) T.n_len boot_len (pa_cons (pv 0) pa_nil)))
            (case hk0 => exact (fun e xs h => nomatch h))
            (case hb0 =>
              intro Gc Qc Ec sc en
              have cE := hEJ.same sc
              clear sc
              tm_at "go"
              refine lenOb cE (Nat.le_of_ble_eq_true rfl) ?_
              tm_at "go"
              exact en _ _ (Same.refl _))
          | 1, hx =>
            cases hx
            refine' ask_g1 (EK := EK7 k kb) (k := 13) (N := ["_law_a", "_law_p"]) (fr := ["_law_p"]) (ws := [.ref q]) (some (kMn k.m, [.int 8])) ?S1 C off (.cons (C.cap (.tail _ (.head _)) rfl) .nil) ?hF1 ?hC1 ?hD1 ?hb01 ?body1 ?hk1 ?hb1
            (case hF1 => exact gF1)
            (case hC1 => exact gC1)
            (case hD1 => exact gD1)
            (case hb01 => exact ⟨_, rfl, fun _ => rfl⟩)
            (case S1 => exact nscope_by (by decide +kernel))
            (case body1 => exact fun A outer s H E hr => (StX.pe_makeR T.mk_Object G_Object___init__ (hr.mono (by omega)) (by rfl) T.m_Object LendN.passL (pa_cons pe_str (pa_cons (pe_ix (ix_list : IxR _ (rIxL K)) (pv 1) pe_int (fun _ _ => rfl)) (pa_cons (pe_ix (ix_list : IxR _ (rIxL K)) (pv 1) pe_int (fun _ _ => rfl)) (pa_cons (pe_ix (ix_list : IxR _ (rIxL K)) (pv 1) pe_int (fun _ _ => rfl)) (pa_cons (pe_ix (ix_list : IxR _ (rIxL K)) (pv 1) pe_int (fun _ _ => rfl)) (pa_cons (pe_ix (ix_list : IxR _ (rIxL K)) (pv 1) pe_int (fun _ _ => rfl)) (pa_cons (pe_ix (ix_list : IxR _ (rIxL K)) (pv 1) pe_int (fun _ _ => rfl)) (pa_cons (pe_ix (ix_list : IxR _ (rIxL K)) (pv 1) pe_int (fun _ _ => rfl)) (pa_cons (pe_ix (ix_list : IxR _ (rIxL K)) (pv 1) pe_int (fun _ _ => rfl)) (pa_cons (pe_ix (ix_list : IxR _ (rIxL K)) (pv 1) pe_int (fun _ _ => rfl)) pa_nil))))))))))))
            (case hk1 => exact (fun e xs h => by cases h; exact ⟨.tail _ (.tail _ (.head _)), rfl⟩))
            (case hb1 =>
              intro Gc Qc Ec sc en
              have cq : Gc q = some (.lst [.ref a0, .ref a1, .ref a2, .ref a3, .ref a4, .ref a5, .ref a6, .ref a7, .ref a8]) := sc _ _ fqJ
              have gP := Paired.mapP fPJ fun _ _ e => e.same sc
              clear sc
              tm_at "go"
              exact i_objE (b := b) (d := .str "a") (xs := [.ref a0, .ref a1, .ref a2, .ref a3, .ref a4, .ref a5, .ref a6, .ref a7, .ref a8]) (os := [z0, z1, z2, z3, z4, z5, z6, z7, z8].map some) (lot := some []) (by tm_at "dt") (by tm_at "shw") (pcs_ofc (n := T.n_Piece_name) gP nm9) (Nat.le_of_ble_eq_true rfl) (.seq (.inr (T.v_e_Object___init___outside _)) .nil (Nat.zero_le _)) (ob_many (by decide +kernel) (Nat.le_of_ble_eq_true rfl)) en)
          | 2, hx =>
            cases hx
            refine' ask_g1 (EK := EK7 k kb) (k := 13) (N := ["_law_b", "_law_twice"]) (fr := ["_law_twice"]) (ws := [.ref tw]) (some (kMn k.m, [.int 8])) ?S2 C off (.cons (C.cap (.tail _ (.tail _ (.tail _ (.head _)))) rfl) .nil) ?hF2 ?hC2 ?hD2 ?hb02 ?body2 ?hk2 ?hb2
            (case hF2 => exact gF2)
            (case hC2 => exact gC2)
            (case hD2 => exact gD2)
            (case hb02 => exact ⟨_, rfl, fun _ => rfl⟩)
            (case S2 => exact nscope_by (by decide +kernel))
            (case body2 => exact fun A outer s H E hr => (StkX.pe_makeRW T.mk_Object G_Object___init__W (hr.mono (by omega)) (by rfl) T.m_Object LendN.passL (pa_cons pe_str (pa_cons (pe_ix (ix_list : IxR _ (rIxL K)) (pv 1) pe_int (fun _ _ => rfl)) (pa_cons (pe_ix (ix_list : IxR _ (rIxL K)) (pv 1) pe_int (fun _ _ => rfl)) (pa_cons (pe_ix (ix_list : IxR _ (rIxL K)) (pv 1) pe_int (fun _ _ => rfl)) (pa_cons (pe_ix (ix_list : IxR _ (rIxL K)) (pv 1) pe_int (fun _ _ => rfl)) (pa_cons (pe_ix (ix_list : IxR _ (rIxL K)) (pv 1) pe_int (fun _ _ => rfl)) (pa_cons (pe_ix (ix_list : IxR _ (rIxL K)) (pv 1) pe_int (fun _ _ => rfl)) (pa_cons (pe_ix (ix_list : IxR _ (rIxL K)) (pv 1) pe_int (fun _ _ => rfl)) (pa_cons (pe_ix (ix_list : IxR _ (rIxL K)) (pv 1) pe_int (fun _ _ => rfl)) (pa_cons (pe_ix (ix_list : IxR _ (rIxL K)) (pv 1) pe_int (fun _ _ => rfl)) pa_nil)))))))))) (pk_cons pe_non pk_nil)))
            (case hk2 => exact (fun e xs h => by cases h; exact ⟨.tail _ (.tail _ (.head _)), rfl⟩))
            (case hb2 =>
              intro Gc Qc Ec sc en
              have ct : Gc tw = some (.lst [.ref a0, .ref a1, .ref a2, .ref a3, .ref a4, .ref a5, .ref a6, .ref a0, .ref a0]) := sc _ _ ftJ
              have gP := Paired.mapP fPJ fun _ _ e => e.same sc
              have r0 := (nineP gP).1.ofc T.n_Piece_name (nmz z0 (.head _))
              clear sc
              tm_at "go"
              exact i_objE (b := b) (d := .str "a") (xs := [.ref a0, .ref a1, .ref a2, .ref a3, .ref a4, .ref a5, .ref a6, .ref a0, .ref a0]) (os := [z0, z1, z2, z3, z4, z5, z6, z0, z0].map some) (by tm_at "dt") (by tm_at "shw") (Paired.app (Paired.take 7 (pcs_ofc (n := T.n_Piece_name) gP nm9)) (.cons r0 (.cons r0 .nil))) (Nat.le_of_ble_eq_true rfl) (.no flatK.non) (ob_many (by decide +kernel) (Nat.le_of_ble_eq_true rfl)) en)
          | 3, hx =>
            cases hx
            refine' ask_g1 (EK := EK7 k kb) (k := 13) (N := ["_law_c", "_law_p"]) (fr := ["_law_p"]) (ws := [.ref q]) (some (kPc k.p, [.int 8])) ?S3 C off (.cons (C.cap (.tail _ (.head _)) rfl) .nil) ?hF3 ?hC3 ?hD3 ?hb03 ?body3 ?hk3 ?hb3
            (case hF3 => exact gF3)
            (case hC3 => exact gC3)
            (case hD3 => exact gD3)
            (case hb03 => exact ⟨_, rfl, fun _ => rfl⟩)
            (case S3 => exact nscope_by (by decide +kernel))
            (case body3 => exact fun A outer s H E hr => (StX.pe_makeR T.mk_Object G_Object___init__ (hr.mono (by omega)) (by rfl) T.m_Object LendN.passL (pa_cons pe_str (pa_cons (pe_ix (ix_list : IxR _ (rIxL K)) (pv 1) pe_int (fun _ _ => rfl)) (pa_cons (pe_ix (ix_list : IxR _ (rIxL K)) (pv 1) pe_int (fun _ _ => rfl)) (pa_cons (pe_ix (ix_list : IxR _ (rIxL K)) (pv 1) pe_int (fun _ _ => rfl)) (pa_cons (pe_ix (ix_list : IxR _ (rIxL K)) (pv 1) pe_int (fun _ _ => rfl)) (pa_cons (pe_ix (ix_list : IxR _ (rIxL K)) (pv 1) pe_int (fun _ _ => rfl)) (pa_cons (pe_ix (ix_list : IxR _ (rIxL K)) (pv 1) pe_int (fun _ _ => rfl)) (pa_cons (pe_ix (ix_list : IxR _ (rIxL K)) (pv 1) pe_int (fun _ _ => rfl)) (pa_cons (pe_ix (ix_list : IxR _ (rIxL K)) (pv 1) pe_int (fun _ _ => rfl)) (pa_cons pe_int pa_nil))))))))))))
            (case hk3 => exact (fun e xs h => by cases h; exact ⟨.tail _ (.head _), rfl⟩))
            (case hb3 =>
              intro Gc Qc Ec sc en
              have cq : Gc q = some (.lst [.ref a0, .ref a1, .ref a2, .ref a3, .ref a4, .ref a5, .ref a6, .ref a7, .ref a8]) := sc _ _ fqJ
              have gP := Paired.mapP fPJ fun _ _ e => e.same sc
              clear sc
              tm_at "go"
              exact i_objE (b := b) (d := .str "a") (xs := [.ref a0, .ref a1, .ref a2, .ref a3, .ref a4, .ref a5, .ref a6, .ref a7] ++ [.int 3]) (os := [z0, z1, z2, z3, z4, z5, z6, z7].map some ++ [none]) (lot := some []) (by tm_at "dt") (by tm_at "shw") (Paired.app (Paired.take 8 (pcs_ofc (n := T.n_Piece_name) gP nm9)) (.cons (ofc_six (b := b) (mg := mg) (w := w) (Z := Z) T.i_Piece (.int 3)) .nil)) (Nat.le_of_ble_eq_true rfl) (.seq (.inr (T.v_e_Object___init___outside _)) .nil (Nat.zero_le _)) (objE2 (by decide +kernel) (fi_app _ _)) en)
          | 4, hx =>
            cases hx
            refine' ask_g1 (EK := EK7 k kb) (k := 13) (N := ["_law_d", "_law_pool"]) (fr := ["_law_pool"]) (ws := [.ref p]) (some (kMn k.m, [.int 8])) ?S4 C off (.cons (C.cap (.head _) rfl) .nil) ?hF4 ?hC4 ?hD4 ?hb04 ?body4 ?hk4 ?hb4
            (case hF4 => exact gF4)
            (case hC4 => exact gC4)
            (case hD4 => exact gD4)
            (case hb04 => exact ⟨_, rfl, fun _ => rfl⟩)
            (case S4 => exact nscope_by (by decide +kernel))
            (case body4 => exact fun A outer s H E hr => (StkX.pe_makeRW T.mk_Object G_Object___init__W (hr.mono (by omega)) (by rfl) T.m_Object LendN.passL (pa_cons pe_str pa_nil) (pk_cons (pe_slice (sl_list : SlR _ (rSlL K)) (pv 1) po_none (po_some pe_int)) pk_nil)))
            (case hk4 => exact (fun e xs h => by cases h; exact ⟨.tail _ (.tail _ (.head _)), rfl⟩))
            (case hb4 =>
              intro Gc Qc Ec sc en
              have cp : Gc p = some (.lst [.str z0, .str z1, .str z2, .str z3, .str z4, .str z5, .str z6, .str z7, .str z8, .str z9, .str z10, .str z11, .str z12, .str z13, .str z14, .str z15, .str z16]) := sc _ _ fpJ
              clear sc
              tm_at "go"
              rename_i u G1 n1 s1 e1
              replace e1 : G1 u = some (.lst ([z0, z1, z2, z3, z4, z5, z6, z7, z8].map V.str)) := e1
              exact i_objE (b := b) (d := .str "a") (xs := []) (os := ([] : List Str).map some) (by tm_at "dt") (by tm_at "shw") .nil (Nat.zero_le _) (.seq (.inl (SqL.of e1)) (dtsN nm9) (Nat.le_of_ble_eq_true rfl)) (ob_manyO (by decide +kernel) (Nat.zero_le _) rfl (Nat.le_of_ble_eq_true rfl)) (en.later s1))
          | 5, hx =>
            cases hx
            refine' ask_g1 (EK := EK7 k kb) (k := 13) (N := ["_law_f", "_law_eight", "_law_p"]) (fr := ["_law_eight", "_law_p"]) (ws := [.ref eg, .ref q]) (some (kMn k.m, [.int 8])) ?S5 C off (.cons (C.cap (.tail _ (.tail _ (.tail _ (.tail _ (.head _))))) rfl) (.cons (C.cap (.tail _ (.head _)) rfl) .nil)) ?hF5 ?hC5 ?hD5 ?hb05 ?body5 ?hk5 ?hb5
            (case hF5 => exact gF5)
            (case hC5 => exact gC5)
            (case hD5 => exact gD5)
            (case hb05 => exact ⟨_, rfl, fun _ => rfl⟩)
            (case S5 => exact nscope_by (by decide +kernel))
            (case body5 => exact fun A outer s H E hr => (pe_meth (pv 1) T.cl_Object T.M_Object_with_piece G_Object_with_piece (hr.mono (by omega)) T.b_Object_with_piece .nil LendN.passL (pa_cons (pe_ix (ix_list : IxR _ (rIxL K)) (pv 2) pe_int (fun _ _ => rfl)) pa_nil)))
            (case hk5 => exact (fun e xs h => by cases h; exact ⟨.tail _ (.tail _ (.head _)), rfl⟩))
            (case hb5 =>
              intro Gc Qc Ec sc en
              have cq : Gc q = some (.lst [.ref a0, .ref a1, .ref a2, .ref a3, .ref a4, .ref a5, .ref a6, .ref a7, .ref a8]) := sc _ _ fqJ
              have cE := hEJ.same sc
              have gP := Paired.mapP fPJ fun _ _ e => e.same sc
              have r8 := (nineP gP).2.2.2.2.2.2.2.2.ofc T.n_Piece_name (nmz z8 (.tail _ (.tail _ (.tail _ (.tail _ (.tail _ (.tail _ (.tail _ (.tail _ (.head _))))))))))
              clear sc
              refine methW rfl cE ?_
              tm_at "go"
              refine i_withE (b := b) (ns := [z0, z1, z2, z3, z4, z5, z6, z7]) cE nmA (Paired.take 8 (pcs_ofc (n := T.n_Piece_name) gP nm9)) (Nat.le_of_ble_eq_true rfl) (dtsN nm8) (Nat.le_of_ble_eq_true rfl) r8 ?_ en
              rw [wpi_none n8]
              exact ob_many (ns := [z0, z1, z2, z3, z4, z5, z6, z7, z8]) (by decide +kernel) (Nat.le_of_ble_eq_true rfl))
          | 6, hx =>
            cases hx
            refine' ask_g1 (EK := EK7 k kb) (k := 13) (N := ["_law_g", "_law_eight", "_law_pool"]) (fr := ["_law_eight", "_law_pool"]) (ws := [.ref eg, .ref p]) (some (kMn k.m, [.int 8])) ?S6 C off (.cons (C.cap (.tail _ (.tail _ (.tail _ (.tail _ (.head _))))) rfl) (.cons (C.cap (.head _) rfl) .nil)) ?hF6 ?hC6 ?hD6 ?hb06 ?body6 ?hk6 ?hb6
            (case hF6 => exact gF6)
            (case hC6 => exact gC6)
            (case hD6 => exact gD6)
            (case hb06 => exact ⟨_, rfl, fun _ => rfl⟩)
            (case S6 => exact nscope_by (by decide +kernel))
            (case body6 => exact fun A outer s H E hr => (pe_meth (pv 1) T.cl_Object T.M_Object_with_piece G_Object_with_piece (hr.mono (by omega)) T.b_Object_with_piece .nil LendN.passL (pa_cons (pe_call G_law_small_piece (hr.mono (by omega)) (by rfl) T.m_law_small_piece T.F_law_small_piece.kp T.b_law_small_piece .nil LendN.passL (pa_cons (pe_ix (ix_list : IxR _ (rIxL K)) (pv 2) pe_int (fun _ _ => rfl)) pa_nil)) pa_nil)))
            (case hk6 => exact (fun e xs h => by cases h; exact ⟨.tail _ (.tail _ (.head _)), rfl⟩))
            (case hb6 =>
              intro Gc Qc Ec sc en
              have cp : Gc p = some (.lst [.str z0, .str z1, .str z2, .str z3, .str z4, .str z5, .str z6, .str z7, .str z8, .str z9, .str z10, .str z11, .str z12, .str z13, .str z14, .str z15, .str z16]) := sc _ _ fpJ
              have cE := hEJ.same sc
              have gP := Paired.mapP fPJ fun _ _ e => e.same sc
              clear sc
              refine methW rfl cE ?_
              tm_at "go"
              refine i_small nz9 fun G1 x dx fs s1 nx ex lx => ?_
              tm_at "go"
              refine i_withE (b := b) (ns := [z0, z1, z2, z3, z4, z5, z6, z7]) (cE.same s1) nmA (Paired.mapP (Paired.take 8 (pcs_ofc (n := T.n_Piece_name) gP nm9)) fun _ _ e => e.same s1) (Nat.le_of_ble_eq_true rfl) (dtsN nm8) (Nat.le_of_ble_eq_true rfl) (Pc.ofc ⟨dx, fs, ex, lx⟩ T.n_Piece_name nz9) ?_ (en.later s1)
              rw [wpi_none n9]
              exact ob_many (ns := [z0, z1, z2, z3, z4, z5, z6, z7] ++ [z9]) (by decide +kernel) (Nat.le_of_ble_eq_true rfl))
          | 7, hx =>
            cases hx
            refine' ask_g1 (EK := EK7 k kb) (k := 13) (N := ["_law_h", "_law_eight", "_law_p"]) (fr := ["_law_eight", "_law_p"]) (ws := [.ref eg, .ref q]) (none) ?S7 C off (.cons (C.cap (.tail _ (.tail _ (.tail _ (.tail _ (.head _))))) rfl) (.cons (C.cap (.tail _ (.head _)) rfl) .nil)) ?hF7 ?hC7 ?hD7 ?hb07 ?body7 ?hk7 ?hb7
            (case hF7 => exact gF7)
            (case hC7 => exact gC7)
            (case hD7 => exact gD7)
            (case hb07 => exact ⟨_, rfl, fun _ => rfl⟩)
            (case S7 => exact nscope_by (by decide +kernel))
            (case body7 => exact fun A outer s H E hr => (pe_callB (c_lenO G_Object___len__ (hr.mono (by omega)) T.S_Object___len__ T.b_Object___len__ pass0) (by rfl) T.n_len boot_len (pa_cons (pe_meth (pv 1) T.cl_Object T.M_Object_with_piece G_Object_with_piece (hr.mono (by omega)) T.b_Object_with_piece .nil LendN.passL (pa_cons (pe_ix (ix_list : IxR _ (rIxL K)) (pv 2) pe_int (fun _ _ => rfl)) pa_nil)) pa_nil)))
            (case hk7 => exact (fun e xs h => nomatch h))
            (case hb7 =>
              intro Gc Qc Ec sc en
              have cq : Gc q = some (.lst [.ref a0, .ref a1, .ref a2, .ref a3, .ref a4, .ref a5, .ref a6, .ref a7, .ref a8]) := sc _ _ fqJ
              have cE := hEJ.same sc
              have gP := Paired.mapP fPJ fun _ _ e => e.same sc
              have r3 := (nineP gP).2.2.2.1.ofc T.n_Piece_name (nmz z3 (.tail _ (.tail _ (.tail _ (.head _)))))
              clear sc
              tm_at "go"
              refine methW rfl cE ?_
              tm_at "go"
              refine i_withO (b := b) (ns := [z0, z1, z2, z3, z4, z5, z6, z7]) cE nmA (Paired.take 8 (pcs_ofc (n := T.n_Piece_name) gP nm9)) (Nat.le_of_ble_eq_true rfl) (dtsN nm8) (Nat.le_of_ble_eq_true rfl) r3 ?_ fun G1 x' p1 p2 s1 _ _ _ hx => ?_
              · rw [wpi_at (i := 3) nd8 rfl]
                exact ob_ok (ns := [z0, z1, z2, z3, z4, z5, z6, z7]) (us := [z8, z9, z10, z11, z12, z13, z14, z15]) (by decide +kernel) (.inr ⟨Nat.le_of_ble_eq_true rfl, Nat.le_of_ble_eq_true rfl⟩) nd16 nm8
              · rw [wpi_at (i := 3) nd8 rfl] at hx
                tm_at "go"
                refine lenOb hx (Nat.le_of_ble_eq_true rfl) ?_
                tm_at "go"
                exact en _ _ s1)
          | 8, hx =>
            cases hx
            refine' ask_g1 (EK := EK7 k kb) (k := 13) (N := ["_law_i", "_law_eight"]) (fr := ["_law_eight"]) (ws := [.ref eg]) (some (kPc k.p, [.int 8])) ?S8 C off (.cons (C.cap (.tail _ (.tail _ (.tail _ (.tail _ (.head _))))) rfl) .nil) ?hF8 ?hC8 ?hD8 ?hb08 ?body8 ?hk8 ?hb8
            (case hF8 => exact gF8)
            (case hC8 => exact gC8)
            (case hD8 => exact gD8)
            (case hb08 => exact ⟨_, rfl, fun _ => rfl⟩)
            (case S8 => exact nscope_by (by decide +kernel))
            (case body8 => exact fun A outer s H E hr => (pe_meth (pv 1) T.cl_Object T.M_Object_with_piece G_Object_with_piece (hr.mono (by omega)) T.b_Object_with_piece .nil LendN.passL (pa_cons pe_non pa_nil)))
            (case hk8 => exact (fun e xs h => by cases h; exact ⟨.tail _ (.head _), rfl⟩))
            (case hb8 =>
              intro Gc Qc Ec sc en
              have cE := hEJ.same sc
              have gP := Paired.mapP fPJ fun _ _ e => e.same sc
              clear sc
              refine methW rfl cE ?_
              tm_at "go"
              exact i_withE (b := b) (ns := [z0, z1, z2, z3, z4, z5, z6, z7]) (o := none) cE nmA (Paired.take 8 (pcs_ofc (n := T.n_Piece_name) gP nm9)) (Nat.le_of_ble_eq_true rfl) (dtsN nm8) (Nat.le_of_ble_eq_true rfl) (ofc_six (b := b) (mg := mg) (w := w) (Z := Z) T.i_Piece .non) (objE2 (by decide +kernel) (fi_app _ _)) en)
          | 9, hx =>
            cases hx
            refine' ask_g1 (EK := EK7 k kb) (k := 13) (N := ["_law_j", "_law_o"]) (fr := ["_law_o"]) (ws := [.ref o]) (none) ?S9 C off (.cons (C.cap (.tail _ (.tail _ (.head _))) rfl) .nil) ?hF9 ?hC9 ?hD9 ?hb09 ?body9 ?hk9 ?hb9
            (case hF9 => exact gF9)
            (case hC9 => exact gC9)
            (case hD9 => exact gD9)
            (case hb09 => exact ⟨_, rfl, fun _ => rfl⟩)
            (case S9 => exact nscope_by (by decide +kernel))
            (case body9 => exact fun A outer s H E hr => (pe_callB (c_lenO G_Archive___len__ (hr.mono (by omega)) T.S_Archive___len__ T.b_Archive___len__ pass0) (by rfl) T.n_len boot_len (pa_cons (StX.pe_makeR T.mk_Archive G_Archive___init__ (hr.mono (by omega)) (by rfl) T.m_Archive LendN.passL (pa_cons pe_str (pa_cons (pe_ix (ix_list : IxR _ (rIxL K)) (pv 1) pe_int (fun _ _ => rfl)) (pa_cons (pe_ix (ix_list : IxR _ (rIxL K)) (pv 1) pe_int (fun _ _ => rfl)) (pa_cons (pe_ix (ix_list : IxR _ (rIxL K)) (pv 1) pe_int (fun _ _ => rfl)) (pa_cons (pe_ix (ix_list : IxR _ (rIxL K)) (pv 1) pe_int (fun _ _ => rfl)) pa_nil)))))) pa_nil)))
            (case hk9 => exact (fun e xs h => nomatch h))
            (case hb9 =>
              intro Gc Qc Ec sc en
              have co : Gc o = some (.lst [.ref o0, .ref o1, .ref o2, .ref o3, .ref o4]) := sc _ _ foJ
              have gO := Paired.mapP fOJ fun _ _ e => e.same sc
              clear sc
              tm_at "go"
              refine i_archive (b := b) (kb := kb) (d := .str "a") (xs := [.ref o0, .ref o1, .ref o2, .ref o3]) (os := [z0, z1, z2, z3].map some) (by tm_at "dt") (by tm_at "shw") (Paired.take 4 (pcs_ofc (n := T.n_Object_name) gO nm5)) (Nat.le_of_ble_eq_true rfl) (fun e ys h => by rw [ar_ok (by decide +kernel) (Nat.le_of_ble_eq_true rfl) nd4] at h; cases h) fun _ G1 x dx q1 fs s1 nx ex l1 l2 l3 => ?_
              tm_at "go"
              refine lenAr ⟨⟨dx, fs, ex, l1, l2⟩, l3⟩ (Nat.le_of_ble_eq_true rfl) ?_
              tm_at "go"
              exact en _ _ s1)
          | 10, hx =>
            cases hx
            refine' ask_g1 (EK := EK7 k kb) (k := 13) (N := ["_law_k", "_law_o"]) (fr := ["_law_o"]) (ws := [.ref o]) (some (kMn k.m, [.int 4])) ?S10 C off (.cons (C.cap (.tail _ (.tail _ (.head _))) rfl) .nil) ?hF10 ?hC10 ?hD10 ?hb010 ?body10 ?hk10 ?hb10
            (case hF10 => exact gF10)
            (case hC10 => exact gC10)
            (case hD10 => exact gD10)
            (case hb010 => exact ⟨_, rfl, fun _ => rfl⟩)
            (case S10 => exact nscope_by (by decide +kernel))
            (case body10 => exact fun A outer s H E hr => (StX.pe_makeR T.mk_Archive G_Archive___init__ (hr.mono (by omega)) (by rfl) T.m_Archive LendN.passL (pa_cons pe_str (pa_cons (pe_ix (ix_list : IxR _ (rIxL K)) (pv 1) pe_int (fun _ _ => rfl)) (pa_cons (pe_ix (ix_list : IxR _ (rIxL K)) (pv 1) pe_int (fun _ _ => rfl)) (pa_cons (pe_ix (ix_list : IxR _ (rIxL K)) (pv 1) pe_int (fun _ _ => rfl)) (pa_cons (pe_ix (ix_list : IxR _ (rIxL K)) (pv 1) pe_int (fun _ _ => rfl)) (pa_cons (pe_ix (ix_list : IxR _ (rIxL K)) (pv 1) pe_int (fun _ _ => rfl)) pa_nil))))))))
            (case hk10 => exact (fun e xs h => by cases h; exact ⟨.tail _ (.tail _ (.head _)), rfl⟩))
            (case hb10 =>
              intro Gc Qc Ec sc en
              have co : Gc o = some (.lst [.ref o0, .ref o1, .ref o2, .ref o3, .ref o4]) := sc _ _ foJ
              have gO := Paired.mapP fOJ fun _ _ e => e.same sc
              clear sc
              tm_at "go"
              exact i_archE (b := b) (kb := kb) (d := .str "a") (xs := [.ref o0, .ref o1, .ref o2, .ref o3, .ref o4]) (os := [z0, z1, z2, z3, z4].map some) (by tm_at "dt") (by tm_at "shw") (pcs_ofc (n := T.n_Object_name) gO nm5) (Nat.le_of_ble_eq_true rfl) (ar_many (by decide +kernel) (Nat.le_of_ble_eq_true rfl)) en)
          | 11, hx =>
            cases hx
            refine' ask_g1 (EK := EK7 k kb) (k := 13) (N := ["_law_m", "_law_o"]) (fr := ["_law_o"]) (ws := [.ref o]) (some (kMn k.m, [.int 4])) ?S11 C off (.cons (C.cap (.tail _ (.tail _ (.head _))) rfl) .nil) ?hF11 ?hC11 ?hD11 ?hb011 ?body11 ?hk11 ?hb11
            (case hF11 => exact gF11)
            (case hC11 => exact gC11)
            (case hD11 => exact gD11)
            (case hb011 => exact ⟨_, rfl, fun _ => rfl⟩)
            (case S11 => exact nscope_by (by decide +kernel))
            (case body11 => exact fun A outer s H E hr => (StX.pe_makeR T.mk_Archive G_Archive___init__ (hr.mono (by omega)) (by rfl) T.m_Archive LendN.passL (pa_cons pe_str (pa_cons (pe_ix (ix_list : IxR _ (rIxL K)) (pv 1) pe_int (fun _ _ => rfl)) (pa_cons (pe_ix (ix_list : IxR _ (rIxL K)) (pv 1) pe_int (fun _ _ => rfl)) (pa_cons (pe_ix (ix_list : IxR _ (rIxL K)) (pv 1) pe_int (fun _ _ => rfl)) (pa_cons (pe_ix (ix_list : IxR _ (rIxL K)) (pv 1) pe_int (fun _ _ => rfl)) (pa_cons (pe_ix (ix_list : IxR _ (rIxL K)) (pv 1) pe_int (fun _ _ => rfl)) pa_nil))))))))
            (case hk11 => exact (fun e xs h => by cases h; exact ⟨.tail _ (.tail _ (.head _)), rfl⟩))
            (case hb11 =>
              intro Gc Qc Ec sc en
              have co : Gc o = some (.lst [.ref o0, .ref o1, .ref o2, .ref o3, .ref o4]) := sc _ _ foJ
              have gO := Paired.mapP fOJ fun _ _ e => e.same sc
              have ro := (fiveP gO).1.ofc T.n_Object_name (nmz z0 (.head _))
              clear sc
              tm_at "go"
              exact i_archE (b := b) (kb := kb) (d := .str "a") (xs := [.ref o0, .ref o0, .ref o0, .ref o0, .ref o0]) (os := [z0, z0, z0, z0, z0].map some) (by tm_at "dt") (by tm_at "shw") (.cons ro (.cons ro (.cons ro (.cons ro (.cons ro .nil))))) (Nat.le_of_ble_eq_true rfl) (ar_many (by decide +kernel) (Nat.le_of_ble_eq_true rfl)) en)
          | 12, hx =>
            cases hx
            refine' ask_g1 (EK := EK7 k kb) (k := 13) (N := ["_law_n", "_law_o"]) (fr := ["_law_o"]) (ws := [.ref o]) (some (kNm k.n, [.str "A"])) ?S12 C off (.cons (C.cap (.tail _ (.tail _ (.head _))) rfl) .nil) ?hF12 ?hC12 ?hD12 ?hb012 ?body12 ?hk12 ?hb12
            (case hF12 => exact gF12)
            (case hC12 => exact gC12)
            (case hD12 => exact gD12)
            (case hb012 => exact ⟨_, rfl, fun _ => rfl⟩)
            (case S12 => exact nscope_by (by decide +kernel))
            (case body12 => exact fun A outer s H E hr => (StX.pe_makeR T.mk_Archive G_Archive___init__ (hr.mono (by omega)) (by rfl) T.m_Archive LendN.passL (pa_cons pe_str (pa_cons (pe_ix (ix_list : IxR _ (rIxL K)) (pv 1) pe_int (fun _ _ => rfl)) (pa_cons (pe_ix (ix_list : IxR _ (rIxL K)) (pv 1) pe_int (fun _ _ => rfl)) (pa_cons pe_non pa_nil))))))
            (case hk12 => exact (fun e xs h => by cases h; exact ⟨.head _, rfl⟩))
            (case hb12 =>
              intro Gc Qc Ec sc en
              have co : Gc o = some (.lst [.ref o0, .ref o1, .ref o2, .ref o3, .ref o4]) := sc _ _ foJ
              have gO := Paired.mapP fOJ fun _ _ e => e.same sc
              have ro := (fiveP gO).1.ofc T.n_Object_name (nmz z0 (.head _))
              clear sc
              tm_at "go"
              exact i_archE (b := b) (kb := kb) (d := .str "A") (xs := [.ref o0, .ref o0, .non]) (os := [some z0, some z0, none]) (by tm_at "dt") (by tm_at "shw") (.cons ro (.cons ro (.cons (ofc_six (b := b) (mg := mg) (w := w) (Z := Z) T.i_Object .non) .nil))) (Nat.le_of_ble_eq_true rfl) (archE1 (by decide +kernel)) en)
          | n + 13, hx => cases hx
        · intro G tr tss sG nt' etr hpp
          clear gF0 gC0 gD0 gF1 gC1 gD1 gF2 gC2 gD2 gF3 gC3 gD3 gF4 gC4 gD4 gF5 gC5 gD5 gF6 gC6 gD6 gF7 gC7 gD7 gF8 gC8 gD8 gF9 gC9 gD9 gF10 gC10 gD10 gF11 gC11 gD11 gF12 gC12 gD12 eak
          have BG : Bag G b l := BJ.same sG
          have ntb : tr ≠ b := BJ.ne nt'
          have xA : Dt K G b (.ref tr) (.list [.tuple [.str "", .none], .tuple [.str "TooMany", .tuple [.int 8]], .tuple [.str "TooMany", .tuple [.int 8]], .tuple [.str "InvalidPiece", .tuple [.int 8]], .tuple [.str "TooMany", .tuple [.int 8]], .tuple [.str "TooMany", .tuple [.int 8]], .tuple [.str "TooMany", .tuple [.int 8]], .tuple [.str "", .none], .tuple [.str "InvalidPiece", .tuple [.int 8]], .tuple [.str "", .none], .tuple [.str "TooMany", .tuple [.int 4]], .tuple [.str "TooMany", .tuple [.int 4]], .tuple [.str "InvalidName", .tuple [.str "A"]]]) := by
            refine .lst (SqL.of etr) ntb (by rw [List.length_map, Paired.length hpp]; exact Nat.le_of_ble_eq_true rfl) (paired_dt BG hpp ?_)
            have er1 : ∀ {c : Str} {v : V} {d : PyData}, StrK c → Dt K G b v d → WhyD K G b (some (c, [v])) (.tuple [.str c, .tuple [d]]) := fun hc h => .er hc (Nat.le_of_ble_eq_true rfl) (.cons h .nil)
            exact (.cons .ok (.cons (er1 (strK_lit (by decide +kernel)) (.int _)) (.cons (er1 (strK_lit (by decide +kernel)) (.int _)) (.cons (er1 (strK_lit (by decide +kernel)) (.int _)) (.cons (er1 (strK_lit (by decide +kernel)) (.int _)) (.cons (er1 (strK_lit (by decide +kernel)) (.int _)) (.cons (er1 (strK_lit (by decide +kernel)) (.int _)) (.cons .ok (.cons (er1 (strK_lit (by decide +kernel)) (.int _)) (.cons .ok (.cons (er1 (strK_lit (by decide +kernel)) (.int _)) (.cons (er1 (strK_lit (by decide +kernel)) (.int _)) (.cons (er1 (strK_lit (by decide +kernel)) (.str (strK_lit (by decide +kernel)))) .nil)))))))))))))
          have xB := xd.same sG
          have TG : Tabs TT G := tabS sG TJ
          have fpG := sG _ _ fpJ
          have fqG := sG _ _ fqJ
          have hEG := hEJ.same sG
          have fPG := Paired.mapP fPJ fun _ _ e => e.same sG
          clear xd TJ BJ fpJ fqJ hEJ fPJ fOJ foJ ftJ sG hpp etr
          tm_at "go"
          rename_i G1 s1
          refine methO rfl (hEG.same s1) fun G2 r2 s2 nr2 er2 => ?_
          clear xA xB
          tm_at "go"
          rename_i u G3 n3 s3 e3 ub ul
          replace e3 : G3 u = some (.lst ([z8, z9, z10, z11, z12, z13, z14, z15].map V.str)) := e3
          have lr2 : r2 ≠ b := ((BG.same s1)).ne nr2
          refine i_sameB (d := .list ([z8, z9, z10, z11, z12, z13, z14, z15].map PyData.str)) (((BG.same s1).same s2).same s3) (.names (us := [z8, z9, z10, z11, z12, z13, z14, z15]) (s3 _ _ er2) lr2 (Nat.le_of_ble_eq_true rfl) nm8) (.names (us := [z8, z9, z10, z11, z12, z13, z14, z15]) e3 ub (Nat.le_of_ble_eq_true rfl) nm8) (by rw [dep, depA_names]; decide) fun G4 s4 => ?_
          have S4 : Same G G4 := ((s1.trans s2).trans s3).trans s4
          tm_at "go"
          exact ⟨b, l, p, q, [z0, z1, z2, z3, z4, z5, z6, z7, z8, z9, z10, z11, z12, z13, z14, z15, z16], [a0, a1, a2, a3, a4, a5, a6, a7, a8], rfl, BG.same S4, tabS S4 TG, S4 _ _ fpG, npb, N, S4 _ _ fqG, Paired.mapP fPG fun _ _ e => e.same S4, k'⟩
end

open Lend LamX NdefX SupX DicX
/-! ### the law's turn -/
theorem bag_lst {H : Hp} {b l : Addr} (h : Bag H b l) : ∃ yb, H b = some (.lst yb) := by
  obtain ⟨ns, i, r, m, n, h1, _⟩ := h
  exact ⟨_, h1⟩
theorem WhyD.same {K : PySem.W.Frag} {H H' : Hp} {b : Addr} {o : Wy} {D : PyData} (s : Same H H') (h : WhyD K H b o D) : WhyD K H' b o D := by
  cases h with
  | ok => exact .ok
  | er hc hl h => exact .er hc hl (h.but (Go.sb s))
def Mw (C : Addr) (m : Str) (sp : Sp) (E : XK) (t : TA) (σ : L2.St) (x : V) (H : Hp) (Q : VK) : Prop := ∃ a dx fs, x = .ref a ∧ H a = some (.ins C dx fs) ∧ fs.lookup m = none ∧ t σ H fun vs H2 => sp (x :: (vs ++ [])) H2 Q E
theorem methg {C : Addr} {m : Str} {sp : Sp} {E : XK} {ta : TE} {t : TA} {σ : L2.St} {H : Hp} {Q : VK} (q : ta σ H fun x H1 => Mw C m sp E t σ x H1 Q) : tMeth C m sp [] E ta t σ H Q := q
theorem mwW {C x q1 q2 : Addr} {sp : Sp} {E : XK} {t : TA} {σ : L2.St} {H : Hp} {Q : VK} {nm : V} {xs ys : List V} (h : Ob H C x q1 q2 nm xs ys) (q : t σ H fun vs H2 => sp (.ref x :: (vs ++ [])) H2 Q E) : Mw C "with_piece" sp E t σ (.ref x) H Q := by
  obtain ⟨dx, fs, hx, of⟩ := h.ex
  exact ⟨x, dx, fs, rfl, hx, of.no _ (by decide) (by decide) (by decide), q⟩
/-- names at pl, the first four at fw -/
structure St7 (TT : List (Addr × Str)) (b l pl fw : Addr) (xs ys : List V) (H : Hp) : Prop where
  bag : Bag H b l
  tab : Tabs TT H
  pool : H pl = some (.lst xs)
  few : H fw = some (.lst ys)
  npb : pl ≠ b
  nfb : fw ≠ b
section
variable {TT : List (Addr × Str)} {b l pl fw L : Addr} {xs ys vs : List V} {H H' H6 : Hp} {K : PySem.W.Frag} {Z : Fs} {ks : List Kd} {v : V} {k : Kd} {d : PyData}
theorem St7.stp (h : St7 TT b l pl fw xs ys H) (s : Stp b H H') (B : Bag H' b l) : St7 TT b l pl fw xs ys H' := ⟨B, tabB h.bag s h.tab, s _ _ h.npb h.pool, s _ _ h.nfb h.few, h.npb, h.nfb⟩
theorem St7.same (h : St7 TT b l pl fw xs ys H) (s : Same H H') : St7 TT b l pl fw xs ys H' := ⟨h.bag.same s, tabS s h.tab, s _ _ h.pool, s _ _ h.few, h.npb, h.nfb⟩
/-- the values of a turn -/
structure Vl (K : PySem.W.Frag) (Z : Fs) (b p : Addr) (vs : List V) (ks : List Kd) (H : Hp) : Prop where
  at_ : H p = some (.lst vs)
  ne : p ≠ b
  val : Paired (Val K Z H b p) vs ks
theorem Vl.stp (h : Vl K Z b L vs ks H) (B : Bag H b l) (s : Stp b H H') : Vl K Z b L vs ks H' := by
  obtain ⟨yb, eb⟩ := bag_lst B
  exact ⟨s _ _ h.ne h.at_, h.ne, Paired.mapP h.val fun _ _ e => e.but s eb⟩
theorem Vl.same (h : Vl K Z b L vs ks H) (s : Same H H') : Vl K Z b L vs ks H' := ⟨s _ _ h.at_, h.ne, Paired.mapP h.val fun _ _ e => e.same s⟩
theorem Vl.grow (h : Vl K Z b L vs ks H) (s : Go.Grow H H') : Vl K Z b L vs ks H' := ⟨Go.oX s Go.lst_ne h.at_, h.ne, Paired.mapP h.val fun _ _ e => e.grow s⟩
theorem Vl.add (h : Vl K Z b L vs ks H) (B : Bag H b l) (s : Stp b H H') (x : Val K Z H' b L v k) (s6 : Go.But L H' H6) (e6 : H6 L = some (.lst (vs ++ [v]))) : Vl K Z b L (vs ++ [v]) (ks ++ [k]) H6 := by
  have h' := h.stp B s
  exact ⟨e6, h.ne, Paired.app (Paired.mapP h'.val fun _ _ e => e.put s6 h'.at_) (.cons (x.put s6 h'.at_) .nil)⟩
theorem Vl.pn {w : World} {mg : Str → Option Value} (T : Txt K w mg Z) (h : Vl K Z b L vs ks H) : Paired (Ofc K H Z.C_Piece) vs (ks.map Kd.pn) := by
  have q := h.val
  clear h
  generalize L = p at q
  induction q with
  | nil => exact .nil
  | cons r t ih => exact .cons (r.ofP T) ih
theorem Vl.on {w : World} {mg : Str → Option Value} (T : Txt K w mg Z) (h : Vl K Z b L vs ks H) : Paired (Ofc K H Z.C_Object) vs (ks.map Kd.on) := by
  have q := h.val
  clear h
  generalize L = p at q
  induction q with
  | nil => exact .nil
  | cons r t ih => exact .cons (r.ofO T) ih
theorem Val.pnK (h : Val K Z H b L v k) : ∀ n, k.pn = some n → StrK n := by
  cases h with
  | piece _ _ h => intro n e; cases e; exact h.strK
  | _ => intro n e; cases e
theorem Val.onK (h : Val K Z H b L v k) : ∀ n, k.on = some n → StrK n := by
  cases h with
  | obj _ _ h => intro n e; cases e; exact h.strK
  | _ => intro n e; cases e
theorem pnK : ∀ {vs : List V} {ks : List Kd}, Paired (Val K Z H b L) vs ks → ∀ n ∈ (ks.map Kd.pn).filterMap id, StrK n
  | _, _, .nil => fun n m => nomatch m
  | _, k :: ks, .cons r t => fun n m => by
    rw [List.map_cons] at m
    obtain ⟨o, ho, e⟩ := List.mem_filterMap.mp m
    rcases List.mem_cons.mp ho with rfl | ho
    · exact r.pnK n e
    · exact pnK t n (List.mem_filterMap.mpr ⟨o, ho, e⟩)
theorem onK : ∀ {vs : List V} {ks : List Kd}, Paired (Val K Z H b L) vs ks → ∀ n ∈ (ks.map Kd.on).filterMap id, StrK n
  | _, _, .nil => fun n m => nomatch m
  | _, k :: ks, .cons r t => fun n m => by
    rw [List.map_cons] at m
    obtain ⟨o, ho, e⟩ := List.mem_filterMap.mp m
    rcases List.mem_cons.mp ho with rfl | ho
    · exact r.onK n e
    · exact onK t n (List.mem_filterMap.mpr ⟨o, ho, e⟩)
theorem three {α β : Type} {R : α → β → Prop} {as : List α} {bs : List β} (h : Paired R as bs) (hl : as.length = 3) : ∃ a0 a1 a2 b0 b1 b2, as = [a0, a1, a2] ∧ bs = [b0, b1, b2] := by
  obtain ⟨b0, b1, b2, e⟩ := len3 ((Paired.length h).symm.trans hl)
  obtain ⟨a0, a1, a2, d⟩ := len3 hl
  exact ⟨a0, a1, a2, b0, b1, b2, d, e⟩
theorem mem_cutV {xs : List V} {lo hi : Option Int} {v : V} (h : v ∈ cutV xs lo hi) : v ∈ xs := by
  unfold cutV at h
  exact List.mem_of_mem_drop (List.mem_of_mem_take h)
theorem len_cutV {xs : List V} {lo hi : Option Int} : (cutV xs lo hi).length ≤ xs.length := by
  unfold cutV
  rw [List.length_take, List.length_drop]
  omega
/-- a name of four -/
theorem of4 {z0 z1 z2 z3 : Str} (h : v ∈ [V.str z0, .str z1, .str z2, .str z3]) (n0 : Nm z0) (n1 : Nm z1) (n2 : Nm z2) (n3 : Nm z3) : ∃ z, v = .str z ∧ Nm z := by
  simp only [List.mem_cons, List.not_mem_nil, or_false] at h
  rcases h with rfl | rfl | rfl | rfl
  · exact ⟨_, rfl, n0⟩
  · exact ⟨_, rfl, n1⟩
  · exact ⟨_, rfl, n2⟩
  · exact ⟨_, rfl, n3⟩
/-- names handed in as outside, the list of a turn -/
structure Lt (K : PySem.W.Frag) (b q : Addr) (vs : List V) (H : Hp) : Prop where
  at_ : H q = some (.lst vs)
  ne : q ≠ b
  len : vs.length ≤ 20
  odd : ∀ v ∈ vs, ∃ d, Odd K H b v d
theorem Lt.stp (h : Lt K b L vs H) (s : Stp b H H') : Lt K b L vs H' := ⟨s _ _ h.ne h.at_, h.ne, h.len, fun v m => let ⟨d, o⟩ := h.odd v m; ⟨d, o.but s⟩⟩
theorem Lt.same (h : Lt K b L vs H) (s : Same H H') : Lt K b L vs H' := h.stp (Same.stp s)
theorem odds_dt : ∀ {vs : List V}, (∀ v ∈ vs, ∃ d, Odd K H b v d) → ∃ ds, Paired (Dt K H b) vs ds
  | [], _ => ⟨[], .nil⟩
  | v :: vs, h => by
    obtain ⟨d, o⟩ := h v (.head _)
    obtain ⟨ds, p⟩ := odds_dt (vs := vs) fun y m => h y (.tail _ m)
    exact ⟨d :: ds, .cons o.dt p⟩
theorem Lt.lot (h : Lt K b L vs H) : LotV K H b (.ref L) (some vs) := by
  obtain ⟨ds, p⟩ := odds_dt h.odd
  exact .seq (.inl (SqL.of h.at_)) p (Nat.le_trans h.len (by decide))
theorem odds_lot {q : Addr} (h : SeqA K H q vs) (hl : vs.length ≤ 100) (o : ∀ v ∈ vs, ∃ d, Odd K H b v d) : LotV K H b (.ref q) (some vs) := by
  obtain ⟨ds, p⟩ := odds_dt o
  exact .seq h p hl
theorem LotV.grow {lot : Option (List V)} (s : Go.Grow H H') (h : LotV K H b v lot) : LotV K H' b v lot := by
  cases h with
  | no h => exact .no h
  | seq h p l => exact .seq (h.imp (Go.lX s) (Go.tX s)) (Paired.mapP p fun _ _ e => e.grow s) l
end

open Lend LamX NdefX SupX DicX
section
variable {P : Program} {w : World} {K : PySem.W.Frag} {mg : Str → Option Value} {base : Heap} {Z : Fs}
def sp_law (K : PySem.W.Frag) (TT : List (Addr × Str)) : Sp := fun vs H Q _ => ∃ (a : Addr) (ns : List Int), vs = [.ref a] ∧ SqL K H a (ns.map V.int) ∧ ns.length ≤ 63 ∧ Tabs TT H ∧ ∀ H' : Hp, Q (.bl true) H'
theorem ok_law {k : Ko} {ks : Ks} {kb c1 p1 c2 p2 c3 p3 : Addr} {TT : List (Addr × Str)} (T : Txt K w mg Z) (L : La P K mg k kb) (LP : Lg P K mg ks)
    (hc1 : Z.d_law_wide_so.code = .ref c1) (TB1 : TabB base mg c1 p1) (hm1 : (p1, QL "_law_wide_so") ∈ TT) (hu1 : ∀ p ∈ TT, p.1 = p1 → p.2 = QL "_law_wide_so")
    (hc2 : Z.d_law_full_so.code = .ref c2) (TB2 : TabB base mg c2 p2) (hm2 : (p2, QL "_law_full_so") ∈ TT) (hu2 : ∀ p ∈ TT, p.1 = p2 → p.2 = QL "_law_full_so")
    (hc : Z.d_law.code = .ref c3) (TB_law : TabB base mg c3 p3) (hm_law : (p3, QL "law") ∈ TT) (hu_law : ∀ p ∈ TT, p.1 = p3 → p.2 = QL "law") :
    FnOk P w K mg base CX0 23 Z.a_law Z.d_law ["_law_script"] (sp_law K TT) := by
  have G_law_full_so := ok_full_so (P := P) (base := base) T L LP hc1 TB1 hm1 hu1 hc2 TB2 hm2 hu2
  have G_law_small_piece := ok_small_piece (P := P) (base := base) T LP
  have G_Object___init__ := ok_ObjectD (base := base) T L.L
  have G_Object___init__W := ok_ObjectW (base := base) T L.L
  have G_Archive___init__ := ok_ArchiveS (base := base) T L
  have G_Object_with_piece := ok_with_piece (base := base) T L.L
  have G_Object___len__ := ok_Object_len (P := P) (base := base) T
  have G_law_bag := ok_law_bag (P := P) (base := base) T
  have G_law_draw := ok_law_draw (P := P) (base := base) T
  have G_law_of := ok_law_of (P := P) (base := base) T
  have G_law_odd := ok_odd7 (P := P) (base := base) T
  have G_law_some := ok_some (P := P) (base := base) T
  have G_law_mixed := ok_mixed (P := P) (base := base) T
  have G_law_titles : FnOk P w K mg base CX0 3 Z.a_law_titles Z.d_law_titles ["_law_bag_here", "_law_many"] (sp_law_titles K) := ok_law_titles T
  have G_law_object_due := ok_object_due (P := P) (base := base) T
  have G_law_archive_due := ok_archive_due (P := P) (base := base) T
  have G_law_whys := ok_whys7 (P := P) (w := w) (base := base) T L
  have G_law_same := ok_law_same (P := P) (base := base) T 4
  obtain ⟨oc, od, kV, doc, pm, an, cdv, ct, osl, e, lk, hcd⟩ := T.F_law.ex
  rw [e] at lk hc ⊢
  obtain rfl : cdv = .ref c3 := hc
  refine fn_of lk hcd sc_law (fun vs H Q E h => ?_) (fun A outer s H vs Q E hr h => ?_)
  · obtain ⟨a, ns, rfl, _⟩ := h
    rfl
  · obtain ⟨a, ns, rfl, hS, hlen, hT, k'⟩ := h
    refine ⟨_, PSs.nox (pss_cons (ps_set (i := 1) sc_law.nd rfl (Or.inr rfl) (pe_call G_law_bag (hr.mono (by omega)) (by rfl) T.m_law_bag T.F_law_bag.kp T.b_law_bag .nil pass0 (pa_cons (pv 0) pa_nil)))
      (pss_cons (ps_set (i := 2) sc_law.nd rfl (Or.inr rfl) (pe_call G_law_titles (hr.mono (by omega)) (by rfl) T.m_law_titles T.F_law_titles.kp T.b_law_titles .nil pass0 (pa_cons (pv 1) (pa_cons pe_int pa_nil))))
      (pss_cons (ps_for PassesOwn.never rfl (pi_range1 (by rfl) T.n_range (pa_cons pe_int pa_nil)) (pg_name (i := 3) sc_law.nd rfl (Or.inl rfl)) (pss_cons (ps_set (i := 4) sc_law.nd rfl (Or.inr rfl) (pe_slice (sl_list : SlR _ (rSlL K)) (pv 2) po_none (po_some pe_int)))
      (C8.pss_cut (ps_set (i := 5) sc_law.nd rfl (Or.inr rfl) (pe_ifExp (pt_cmpR op_gt (pe_call G_law_draw (hr.mono (by omega)) (by rfl) T.m_law_draw T.F_law_draw.kp T.b_law_draw .nil pass0 (pa_cons (pv 1) (pa_cons pe_int pa_nil))) pe_int (nomark _)) (pe_call G_law_of (hr.mono (by omega)) (by rfl) T.m_law_of T.F_law_of.kp T.b_law_of .nil pass0 (pa_cons (pv 1) (pa_cons (pv 4) pa_nil))) (pe_call G_law_odd (hr.mono (by omega)) (by rfl) T.m_law_odd T.F_law_odd.kp T.b_law_odd .nil pass0 (pa_cons (pv 1) (pa_cons (pe_lst (pa_cons pe_str (pa_cons (pe_tup (pa_cons pe_str pa_nil)) pa_nil))) pa_nil)))))
      (C8.pss_cut (ps_set (i := 6) sc_law.nd rfl (Or.inr rfl) (pe_lc (own := [("_law_k", 7)]) (g := gName 7) (tt := tYes) rfl sc_law.nd (pi_range1 (by rfl) T.n_range (pa_cons pe_int pa_nil)) (blkOk_by (N := N_law) (sc := defScope s_law) (by decide +kernel)) (fun _ _ _ _ _ => pg_name (i := 7) sc_law.nd rfl (Or.inl rfl)) (fun _ _ _ _ _ => pts_nil) (fun _ _ _ _ _ => (pe_ifExp (pt_cmpR op_gt (pe_call G_law_draw (hr.mono (by omega)) (by rfl) T.m_law_draw T.F_law_draw.kp T.b_law_draw .nil pass0 (pa_cons (pv 1) (pa_cons pe_int pa_nil))) pe_int (nomark _)) (pe_call G_law_small_piece (hr.mono (by omega)) (by rfl) T.m_law_small_piece T.F_law_small_piece.kp T.b_law_small_piece .nil LendN.passF (pa_cons (pe_call G_law_of (hr.mono (by omega)) (by rfl) T.m_law_of T.F_law_of.kp T.b_law_of .nil pass0 (pa_cons (pv 1) (pa_cons (pv 4) pa_nil))) pa_nil)) (pe_call G_law_odd (hr.mono (by omega)) (by rfl) T.m_law_odd T.F_law_odd.kp T.b_law_odd .nil pass0 (pa_cons (pv 1) (pa_cons (pe_lst (pa_cons (StX.pe_makeR T.mk_Object G_Object___init__ (hr.mono (by omega)) (by rfl) T.m_Object LendN.passF (pa_cons (pe_ix (ix_list : IxR _ (rIxL K)) (pv 4) pe_int (fun _ _ => rfl)) pa_nil)) (pa_cons (pe_ix (ix_list : IxR _ (rIxL K)) (pv 4) pe_int (fun _ _ => rfl)) pa_nil))) pa_nil)))))))
      (C8.pss_cut (ps_set (i := 8) sc_law.nd rfl (Or.inr rfl) (pe_call G_law_mixed (hr.mono (by omega)) (by rfl) T.m_law_mixed T.F_law_mixed.kp T.b_law_mixed .nil pass0 (pa_cons (pv 1) (pa_cons (pe_op op_cat (pe_call G_law_some (hr.mono (by omega)) (by rfl) T.m_law_some T.F_law_some.kp T.b_law_some .nil pass0 (pa_cons (pv 1) (pa_cons (pv 4) pa_nil))) (pe_call G_law_some (hr.mono (by omega)) (by rfl) T.m_law_some T.F_law_some.kp T.b_law_some .nil pass0 (pa_cons (pv 1) (pa_cons (pe_slice (sl_list : SlR _ (rSlL K)) (pv 2) (po_some pe_int) (po_some pe_int)) pa_nil)))) pa_nil))))
      (C8.pss_cut (ps_if (pt_cmpR op_eq (pe_call G_law_draw (hr.mono (by omega)) (by rfl) T.m_law_draw T.F_law_draw.kp T.b_law_draw .nil pass0 (pa_cons (pv 1) (pa_cons pe_int pa_nil))) pe_int (nomark _)) (pss_cons (ps_set (i := 9) sc_law.nd rfl (Or.inl rfl) (pe_call G_law_draw (hr.mono (by omega)) (by rfl) T.m_law_draw T.F_law_draw.kp T.b_law_draw .nil pass0 (pa_cons (pv 1) (pa_cons (pe_op op_add (pe_callB (Go.c_len : CallR _ _ (Go.RLen K)) (by rfl) T.n_len boot_len (pa_cons (pv 8) pa_nil)) pe_int) pa_nil))))
      (pss_one (ps_set (i := 8) sc_law.nd rfl (Or.inr rfl) (pe_op op_cat (pe_op op_cat (pe_slice (sl_list : SlR _ (rSlL K)) (pv 8) po_none (po_some (pv 9))) (pe_lst (pa_cons (pe_call G_law_odd (hr.mono (by omega)) (by rfl) T.m_law_odd T.F_law_odd.kp T.b_law_odd .nil pass0 (pa_cons (pv 1) (pa_cons (pe_lst (pa_cons pe_str (pa_cons (pe_ix (ix_list : IxR _ (rIxL K)) (pv 4) pe_int (fun _ _ => rfl)) (pa_cons (pe_ix (ix_list : IxR _ (rIxL K)) (pv 4) pe_int (fun _ _ => rfl)) (pa_cons (pe_tup (pa_cons (pe_ix (ix_list : IxR _ (rIxL K)) (pv 4) pe_int (fun _ _ => rfl)) pa_nil)) pa_nil))))) pa_nil))) pa_nil))) (pe_slice (sl_list : SlR _ (rSlL K)) (pv 8) (po_some (pv 9)) po_none))))) pss_nil)
      (C8.pss_cut (ps_set (i := 8) sc_law.nd rfl (Or.inr rfl) (pe_call G_law_of (hr.mono (by omega)) (by rfl) T.m_law_of T.F_law_of.kp T.b_law_of .nil pass0 (pa_cons (pv 1) (pa_cons (pe_lst (pa_cons (pv 8) (pa_cons (pv 8) (pa_cons (pe_callTy (c_tupR : CallR _ _ (RTup K)) (by rfl) T.n_tuple boot_tuple (pa_cons (pv 8) pa_nil)) (pa_cons (pe_lst (pa_cons (pe_ix (ix_list : IxR _ (rIxL K)) (pv 2) pe_int (fun _ _ => rfl)) pa_nil)) (pa_cons pe_non (pa_cons pe_int (pa_cons pe_str (pa_cons (pe_op op_cat (pv 8) (pe_slice (sl_list : SlR _ (rSlL K)) (pv 2) (po_some pe_int) po_none)) (pa_cons pe_bl pa_nil)))))))))) pa_nil))))
      (pss_cons (ps_set (i := 10) sc_law.nd rfl (Or.inl rfl) (pe_call G_law_object_due (hr.mono (by omega)) (by rfl) T.m_law_object_due T.F_law_object_due.kp T.b_law_object_due .nil pass0 (pa_cons (pv 5) (pa_cons (pv 6) (pa_cons (pv 8) pa_nil)))))
      (pss_cons (ps_set (i := 11) sc_law.nd rfl (Or.inl rfl) (pe_lst (pa_cons (Lend.pe_lam0 (T := TT) TB_law rfl hm_law hu_law (LendN.free_ok (by decide +kernel)) rfl) pa_nil)))
      (C8.pss_cut (ps_if (pt_not (pt_val (pe_call G_law_same (hr.mono (by omega)) (by rfl) T.m_law_same T.F_law_same.kp T.b_law_same .nil pass0 (pa_cons (LendN.pe_callW [("_law_title", 5), ("_law_values", 6), ("_law_lot", 8)] G_law_whys (hr.mono (by omega)) (by rfl) T.m_law_whys T.F_law_whys.kp T.b_law_whys .nil (pa_cons (pv 11) pa_nil)) (pa_cons (pe_lst (pa_cons (pv 10) pa_nil)) pa_nil))))) (pss_one (ps_ret pe_bl)) pss_nil)
      (C8.pss_cut (ps_set (i := 6) sc_law.nd rfl (Or.inr rfl) (pe_lc (own := [("_law_k", 7)]) (g := gName 7) (tt := tYes) rfl sc_law.nd (pi_range1 (by rfl) T.n_range (pa_cons pe_int pa_nil)) (blkOk_by (N := N_law) (sc := defScope s_law) (by decide +kernel)) (fun _ _ _ _ _ => pg_name (i := 7) sc_law.nd rfl (Or.inl rfl)) (fun _ _ _ _ _ => pts_nil) (fun _ _ _ _ _ => (pe_ifExp (pt_cmpR op_gt (pe_call G_law_draw (hr.mono (by omega)) (by rfl) T.m_law_draw T.F_law_draw.kp T.b_law_draw .nil pass0 (pa_cons (pv 1) (pa_cons pe_int pa_nil))) pe_int (nomark _)) (StX.pe_makeR T.mk_Object G_Object___init__ (hr.mono (by omega)) (by rfl) T.m_Object LendN.passF (pa_cons (pe_call G_law_of (hr.mono (by omega)) (by rfl) T.m_law_of T.F_law_of.kp T.b_law_of .nil pass0 (pa_cons (pv 1) (pa_cons (pv 4) pa_nil))) pa_nil)) (pe_call G_law_odd (hr.mono (by omega)) (by rfl) T.m_law_odd T.F_law_odd.kp T.b_law_odd .nil pass0 (pa_cons (pv 1) (pa_cons (pe_lst (pa_cons (StX.pe_makeR T.mk_Archive G_Archive___init__ (hr.mono (by omega)) (by rfl) T.m_Archive LendN.passF (pa_cons (pe_ix (ix_list : IxR _ (rIxL K)) (pv 4) pe_int (fun _ _ => rfl)) pa_nil)) (pa_cons (pe_call G_law_small_piece (hr.mono (by omega)) (by rfl) T.m_law_small_piece T.F_law_small_piece.kp T.b_law_small_piece .nil LendN.passF (pa_cons (pe_ix (ix_list : IxR _ (rIxL K)) (pv 4) pe_int (fun _ _ => rfl)) pa_nil)) pa_nil))) pa_nil)))))))
      (pss_one (ps_if (pt_not (pt_val (pe_call G_law_same (hr.mono (by omega)) (by rfl) T.m_law_same T.F_law_same.kp T.b_law_same .nil pass0 (pa_cons (LendN.pe_callW [("_law_title", 5), ("_law_values", 6)] G_law_whys (hr.mono (by omega)) (by rfl) T.m_law_whys T.F_law_whys.kp T.b_law_whys .nil (pa_cons (pe_lst (pa_cons (Lend.pe_lam0 (T := TT) TB_law rfl hm_law hu_law (LendN.free_ok (by decide +kernel)) rfl) pa_nil)) pa_nil)) (pa_cons (pe_lst (pa_cons (pe_call G_law_archive_due (hr.mono (by omega)) (by rfl) T.m_law_archive_due T.F_law_archive_due.kp T.b_law_archive_due .nil pass0 (pa_cons (pv 5) (pa_cons (pv 6) pa_nil))) pa_nil)) pa_nil))))) (pss_one (ps_ret pe_bl)) pss_nil)))))))))))))
      (pss_cons (ps_asg (pe_tup (pa_cons (pe_call G_law_small_piece (hr.mono (by omega)) (by rfl) T.m_law_small_piece T.F_law_small_piece.kp T.b_law_small_piece .nil LendN.passF (pa_cons (pe_ix (ix_list : IxR _ (rIxL K)) (pv 2) pe_int (fun _ _ => rfl)) pa_nil)) (pa_cons (pe_call G_law_small_piece (hr.mono (by omega)) (by rfl) T.m_law_small_piece T.F_law_small_piece.kp T.b_law_small_piece .nil LendN.passF (pa_cons (pe_ix (ix_list : IxR _ (rIxL K)) (pv 2) pe_int (fun _ _ => rfl)) pa_nil)) pa_nil))) (pg_tup (by rfl) (pgs_cons (pg_name (i := 12) sc_law.nd rfl (Or.inr rfl)) (pgs_cons (pg_name (i := 13) sc_law.nd rfl (Or.inr rfl)) pgs_nil))))
      (pss_cons (ps_set (i := 11) sc_law.nd rfl (Or.inl rfl) (pe_lst (pa_cons (Lend.pe_lam0 (T := TT) TB_law rfl hm_law hu_law (LendN.free_ok (by decide +kernel)) rfl) (pa_cons (Lend.pe_lam1 (T := TT) TB_law rfl hm_law hu_law (LendN.free_ok (by decide +kernel)) rfl rfl pe_int) (pa_cons (Lend.pe_lam1 (T := TT) TB_law rfl hm_law hu_law (LendN.free_ok (by decide +kernel)) rfl rfl pe_int) (pa_cons (Lend.pe_lam1 (T := TT) TB_law rfl hm_law hu_law (LendN.free_ok (by decide +kernel)) rfl rfl pe_int) (pa_cons (Lend.pe_lam1 (T := TT) TB_law rfl hm_law hu_law (LendN.free_ok (by decide +kernel)) rfl rfl pe_int) (pa_cons (Lend.pe_lam1 (T := TT) TB_law rfl hm_law hu_law (LendN.free_ok (by decide +kernel)) rfl rfl pe_int) (pa_cons (Lend.pe_lam1 (T := TT) TB_law rfl hm_law hu_law (LendN.free_ok (by decide +kernel)) rfl rfl pe_int) pa_nil)))))))))
      (pss_cons (ps_set (i := 10) sc_law.nd rfl (Or.inl rfl) (pe_lst (pa_cons (pe_tup (pa_cons pe_str (pa_cons (pe_tup (pa_cons pe_int pa_nil)) pa_nil))) (pa_cons (pe_tup (pa_cons pe_str (pa_cons (pe_tup (pa_cons pe_int pa_nil)) pa_nil))) (pa_cons (pe_tup (pa_cons pe_str (pa_cons (pe_tup (pa_cons pe_int pa_nil)) pa_nil))) (pa_cons (pe_tup (pa_cons pe_str (pa_cons (pe_tup (pa_cons pe_int pa_nil)) pa_nil))) (pa_cons (pe_tup (pa_cons pe_str (pa_cons (pe_tup (pa_cons (pe_un un_neg pe_int) pa_nil)) pa_nil))) pa_nil)))))))
      (pss_one (ps_ret (pe_and (pe_call G_law_same (hr.mono (by omega)) (by rfl) T.m_law_same T.F_law_same.kp T.b_law_same .nil pass0 (pa_cons (LendN.pe_callW [("_law_pool", 2), ("_law_one", 12), ("_law_other", 13)] G_law_whys (hr.mono (by omega)) (by rfl) T.m_law_whys T.F_law_whys.kp T.b_law_whys .nil (pa_cons (pv 11) pa_nil)) (pa_cons (pe_op op_cat (pv 10) (pe_lst (pa_cons (pe_tup (pa_cons pe_str (pa_cons pe_non pa_nil))) (pa_cons (pe_tup (pa_cons pe_str (pa_cons (pe_tup (pa_cons pe_int pa_nil)) pa_nil))) pa_nil)))) pa_nil))) (pe_one (pe_call G_law_full_so (hr.mono (by omega)) (by rfl) T.m_law_full_so T.F_law_full_so.kp T.b_law_full_so .nil pass0 (pa_cons (pv 2) pa_nil)))))))))))), ?_⟩
    rw [show L2.start N_law [V.ref a] = [some (V.ref a), none, none, none, none, none, none, none, none, none, none, none, none, none] from rfl]
    try dsimp only [cxOf, Cx.nox]
    tm_at "go"
    rename_i G1 b l s1 nb nl B1
    refine ⟨b, l, 17, rfl, B1, by omega, fun G2 pl zs s2 B2 nt npb npl ep hz3 hzn hzd => ?_⟩
    have T2 : Tabs TT G2 := tabB B1 s2 (tabS s1 hT)
    have NS : Ns zs := ⟨hz3, hzd, hzn⟩
    obtain ⟨z0, z1, z2, z3, z4, z5, z6, z7, z8, z9, z10, z11, z12, z13, z14, z15, z16, rfl⟩ := seventeen hz3
    replace ep : G2 pl = some (.lst [.str z0, .str z1, .str z2, .str z3, .str z4, .str z5, .str z6, .str z7, .str z8, .str z9, .str z10, .str z11, .str z12, .str z13, .str z14, .str z15, .str z16]) := ep
    have n0 : Nm z0 := hzn z0 (by simp)
    have n1 : Nm z1 := hzn z1 (by simp)
    have n2 : Nm z2 := hzn z2 (by simp)
    have n3 : Nm z3 := hzn z3 (by simp)
    have n4 : Nm z4 := hzn z4 (by simp)
    have n5 : Nm z5 := hzn z5 (by simp)
    have n6 : Nm z6 := hzn z6 (by simp)
    have n7 : Nm z7 := hzn z7 (by simp)
    have n8 : Nm z8 := hzn z8 (by simp)
    have n9 : Nm z9 := hzn z9 (by simp)
    have n10 : Nm z10 := hzn z10 (by simp)
    have n11 : Nm z11 := hzn z11 (by simp)
    have n12 : Nm z12 := hzn z12 (by simp)
    have n13 : Nm z13 := hzn z13 (by simp)
    have n14 : Nm z14 := hzn z14 (by simp)
    have n15 : Nm z15 := hzn z15 (by simp)
    have n16 : Nm z16 := hzn z16 (by simp)
    clear nt B1 s1 hS
    tm_at "go"
    refine Go.for_w walk_range (fun i σ H' => ∃ v3 v4 v5 v6 v7 v8 v9 v10 v11 v12 v13, σ = [some (.ref a), some (.ref b), some (.ref pl), v3, v4, v5, v6, v7, v8, v9, v10, v11, v12, v13] ∧ Bag H' b l ∧ Tabs TT H' ∧ H' pl = some (.lst [.str z0, .str z1, .str z2, .str z3, .str z4, .str z5, .str z6, .str z7, .str z8, .str z9, .str z10, .str z11, .str z12, .str z13, .str z14, .str z15, .str z16])) ⟨_, _, _, _, _, _, _, _, _, _, _, rfl, B2, T2, ep⟩ (fun _ _ _ _ _ => trivial) ?_ ?_
    · clear B2 T2 ep s2 hT
      rintro i v σ H4 H5 hi ⟨v3, v4, v5, v6, v7, v8, v9, v10, v11, v12, v13, rfl, B4, T4, ep⟩ ⟨rfl, rfl⟩
      tm_at "go"
      rename_i fw G5 n5 s5 e5 nfb nfl
      replace e5 : G5 fw = some (.lst [.str z0, .str z1, .str z2, .str z3]) := e5
      have S5 : St7 TT b l pl fw [.str z0, .str z1, .str z2, .str z3, .str z4, .str z5, .str z6, .str z7, .str z8, .str z9, .str z10, .str z11, .str z12, .str z13, .str z14, .str z15, .str z16] [.str z0, .str z1, .str z2, .str z3] G5 := ⟨B4.same s5, tabS s5 T4, s5 _ _ ep, e5, npb, nfb⟩
      clear B4 T4 ep e5 n5 s5
      refine Go.cut (fun σ' H' => ∃ t d, σ' = [some (.ref a), some (.ref b), some (.ref pl), some (.int (0 + (i : Int))), some (.ref fw), some t, v6, v7, v8, v9, v10, v11, v12, v13] ∧ St7 TT b l pl fw [.str z0, .str z1, .str z2, .str z3, .str z4, .str z5, .str z6, .str z7, .str z8, .str z9, .str z10, .str z11, .str z12, .str z13, .str z14, .str z15, .str z16] [.str z0, .str z1, .str z2, .str z3] H' ∧ Odd K H' b t d) ?_ ?_
      · have B5 := S5.bag
        have ef := S5.few
        tm_at "go"
        · rename_i D1 d1 s1 B1 d10 d11 hd D2 v s2 B2 hv
          obtain ⟨z, rfl, hz⟩ := of4 hv n0 n1 n2 n3
          exact ⟨_, _, rfl, (S5.stp s1 B1).stp s2 B2, hz.odd⟩
        · rename_i D1 d1 s1 B1 d10 d11 hd t1 D2 m2 s2 e2 t1b t1l q3 D3 m3 s3 e3 q3b q3l
          have S3 := ((S5.stp s1 B1).same s2).same s3
          refine i_odd7 S3.bag e3 q3b (Nat.le_of_ble_eq_true rfl) fun D4 v s4 B4 hv => ?_
          have S4 := S3.stp s4 B4
          have hO : ∃ d, Odd K D4 b v d := by
            rcases hv with ⟨h, _⟩ | hv
            · exact h
            · have et : D4 t1 = some (.tup [.str "a"]) := s4 _ _ t1b (s3 _ _ e2)
              revert hv
              refine fun hv => (show ∀ y ∈ _, ∃ d, Odd K D4 b y d from ?_) _ hv
              clear S4 S3 S5 s1 s2 s3 s4
              tm_at "all"
              all_goals tm_at "mkOdd"
          obtain ⟨d, hd⟩ := hO
          tm_at "go"
          exact ⟨v, d, rfl, S4, hd⟩
      · clear S5
        rintro σ' H6 ⟨t, d, rfl, S6, ht⟩
        refine Go.cut (fun σ' H' => ∃ (p6 : Addr) (vs : List V) (kd : List Kd) (v7 : Option V), σ' = [some (.ref a), some (.ref b), some (.ref pl), some (.int (0 + (i : Int))), some (.ref fw), some t, some (.ref p6), v7, v8, v9, v10, v11, v12, v13] ∧ St7 TT b l pl fw [.str z0, .str z1, .str z2, .str z3, .str z4, .str z5, .str z6, .str z7, .str z8, .str z9, .str z10, .str z11, .str z12, .str z13, .str z14, .str z15, .str z16] [.str z0, .str z1, .str z2, .str z3] H' ∧ Odd K H' b t d ∧ Vl K Z b p6 vs kd H' ∧ vs.length = 3) ?_ ?_
        · tm_at "go"
          refine Go.lc_w walk_range (fun L i' H' => Stp b H6 H' ∧ Bag H' b l ∧ H6 L = none ∧ L ≠ l ∧ i' ≤ 3 ∧ ∃ vs kd, Vl K Z b L vs kd H' ∧ vs.length = i') (by tm_at "wipe") ?_ (fun _ _ _ _ _ => trivial) ?_ ?_
          · intro L H2 n0 s2 e2
            exact ⟨Same.stp s2, S6.bag.same s2, n0, S6.bag.nel n0, Nat.zero_le _, [], [], ⟨e2, S6.bag.ne n0, .nil⟩, rfl⟩
          · rintro L j x Hx H2 hj ⟨s2, B2, nL, Ll, lj, vs, kd, hV, lv⟩ ⟨rfl, rfl⟩
            have S2 := S6.stp s2 B2
            have ef := S2.few
            have hj' : j < 3 := hj
            have fin : ∀ (D4 D5 : Hp) (v : V) (k : Kd), Stp b H2 D4 → Bag D4 b l → Stp b D4 D5 → Bag D5 b l → Val K Z D5 b L v k → Go.LcEnd L (fun H' => Stp b H6 H' ∧ Bag H' b l ∧ H6 L = none ∧ L ≠ l ∧ j + 1 ≤ 3 ∧ ∃ vs kd, Vl K Z b L vs kd H' ∧ vs.length = j + 1) v D5 := by
              intro D4 D5 v k s4 B4 s5 B5 hv
              have h4 := hV.stp B2 s4
              have h5 := h4.stp B4 s5
              refine Go.lcEnd h5.at_ (Go.lt_line (by omega)) fun H6' s6 e6 => ?_
              exact ⟨((s2.trans s4).trans s5).own nL s6, B5.but s6 hV.ne.symm Ll.symm, nL, Ll, by omega, _, _, Vl.add h4 B4 s5 hv s6 e6, by rw [List.length_append, lv]; rfl⟩
            tm_at "go"
            · rename_i D1 d1 s1 B1 d10 d11 hd D2 v s3 B3 hv
              obtain ⟨z, rfl, hz⟩ := of4 hv n0 n1 n2 n3
              refine i_small hz fun D3 x dx fs s4 nx ex lx => ?_
              exact fin D2 D3 _ (.piece z) (s1.trans s3) B3 (Same.stp s4) (B3.same s4) (.piece ex lx hz)
            · rename_i D1 d1 s1 B1 d10 d11 hd
              refine i_objD (b := b) n0 (T.v_e_Object___init___outside _) fun D3 ob q1 q2 s3 nx _ _ hx => ?_
              tm_at "go"
              rename_i q4 D4 n4 s4 e4 b4 l4
              refine i_odd7 ((B1.same s3).same s4) e4 b4 (Nat.le_of_ble_eq_true rfl) fun D5 v s5 B5 hv => ?_
              have sD : Stp b H2 D4 := (s1.trans (Same.stp s3)).trans (Same.stp s4)
              have nr : ∀ a : Addr, D4 a = none → a ≠ L := fun a h z => by
                have q := (hV.stp B2 sD).at_
                rw [← z, h] at q
                cases q
              have hk : ∃ k, Val K Z D5 b L v k := by
                rcases hv with ⟨⟨d, ho⟩, hn⟩ | hv
                · exact ⟨_, .odd ⟨ho, fun a e => nr a (hn a e)⟩⟩
                · obtain ⟨yb, eb⟩ := bag_lst ((B1.same s3).same s4)
                  simp only [List.mem_cons, List.not_mem_nil, or_false] at hv
                  rcases hv with rfl | rfl
                  · obtain ⟨dx, fs, h1, h2⟩ := (hx.pc.same s4)
                    exact ⟨_, .obj (s5 _ _ (ins_ne h1 eb) h1) h2 n0⟩
                  · exact ⟨_, .odd ⟨n0.odd, fun a e => nomatch e⟩⟩
              obtain ⟨k, hk⟩ := hk
              exact fin D4 D5 v k sD (((B1.same s3).same s4)) s5 B5 hk
          · rintro L H2 ⟨s2, B2, nL, Ll, lj, vs, kd, hV, lv⟩
            tm_at "go"
            exact ⟨L, vs, kd, _, rfl, S6.stp s2 B2, ht.but s2, hV, lv⟩
        · clear S6 ht
          rintro σ' H7 ⟨p6, vs, kd, v7, rfl, S7, ht, hV, lv⟩
          refine Go.cut (fun σ' H' => ∃ (q8 : Addr) (us : List V), σ' = [some (.ref a), some (.ref b), some (.ref pl), some (.int (0 + (i : Int))), some (.ref fw), some t, some (.ref p6), v7, some (.ref q8), v9, v10, v11, v12, v13] ∧ St7 TT b l pl fw [.str z0, .str z1, .str z2, .str z3, .str z4, .str z5, .str z6, .str z7, .str z8, .str z9, .str z10, .str z11, .str z12, .str z13, .str z14, .str z15, .str z16] [.str z0, .str z1, .str z2, .str z3] H' ∧ Odd K H' b t d ∧ Vl K Z b p6 vs kd H' ∧ Lt K b q8 us H' ∧ us.length ≤ 8) ?_ ?_
          · have ef := S7.few
            have epl := S7.pool
            have B7 := S7.bag
            tm_at "go"
            refine i_some (zs := [z0, z1, z2, z3]) B7 (SqL.of ef) S7.nfb (Nat.le_of_ble_eq_true rfl) fun D1 q1 us1 s1 B1 nq1 e1 l1 h1 => ?_
            have epl1 := s1 _ _ S7.npb epl
            tm_at "go"
            rename_i c D2 m2 s2 e2 cb cl
            replace e2 : D2 c = some (.lst ([z4, z5, z6, z7].map V.str)) := e2
            refine i_some (zs := [z4, z5, z6, z7]) (B1.same s2) (SqL.of e2) cb (Nat.le_of_ble_eq_true rfl) fun D3 q2 us2 s3 B3 nq2 e3 l2 h2 => ?_
            have q1b := B7.ne nq1
            have l1 : us1.length ≤ 4 := l1
            have l2 : us2.length ≤ 4 := l2
            refine Go.cat (s3 _ _ q1b (s2 _ _ e1)) e3 (Go.le_line (by rw [List.length_map, List.length_map]; omega)) rfl ?_
            tm_at "go"
            rename_i m D4 m4 s4 e4 mb ml
            rw [← List.map_append] at e4
            have B4 := B3.same s4
            refine i_mixed (zs := us1 ++ us2) B4 (SqL.of e4) mb (by rw [List.length_append]; omega) fun D5 q us s5 B5 nq e5 l5 h5 => ?_
            tm_at "go"
            have sA : Stp b H7 D5 := (((s1.trans (Same.stp s2)).trans s3).trans (Same.stp s4)).trans s5
            rw [List.length_append] at l5
            refine ⟨q, us.map V.str, rfl, S7.stp sA B5, ht.but sA, hV.stp B7 sA, ⟨e5, B4.ne nq, by rw [List.length_map]; omega, fun v mv => ?_⟩, by rw [List.length_map]; omega⟩
            obtain ⟨z, hz, rfl⟩ := List.mem_map.mp mv
            refine ⟨_, Nm.odd (hzn z ?_)⟩
            rcases List.mem_append.mp (h5 z hz) with hm | hm
            · exact (List.take_sublist 4 [z0, z1, z2, z3, z4, z5, z6, z7, z8, z9, z10, z11, z12, z13, z14, z15, z16]).subset (h1 z hm)
            · exact ((List.take_sublist 4 _).trans (List.drop_sublist 4 [z0, z1, z2, z3, z4, z5, z6, z7, z8, z9, z10, z11, z12, z13, z14, z15, z16])).subset (h2 z hm)
          · clear S7 ht hV
            rintro σ' H8 ⟨q8, us, rfl, S8, ht, hV, hL, lu⟩
            refine Go.cut (fun σ' H' => ∃ (q8 : Addr) (us : List V) (v9 : Option V), σ' = [some (.ref a), some (.ref b), some (.ref pl), some (.int (0 + (i : Int))), some (.ref fw), some t, some (.ref p6), v7, some (.ref q8), v9, v10, v11, v12, v13] ∧ St7 TT b l pl fw [.str z0, .str z1, .str z2, .str z3, .str z4, .str z5, .str z6, .str z7, .str z8, .str z9, .str z10, .str z11, .str z12, .str z13, .str z14, .str z15, .str z16] [.str z0, .str z1, .str z2, .str z3] H' ∧ Odd K H' b t d ∧ Vl K Z b p6 vs kd H' ∧ Lt K b q8 us H') ?_ ?_
            · have ef := S8.few
              have B8 := S8.bag
              have el := hL.at_
              have nqb := hL.ne
              have nfb' := S8.nfb
              tm_at "go"
              · rename_i D1 d1 s1 B1 d10 d11 hz D2 sp s2 B2 sp0 sp1 c1 D3 m3 s3 e3 c1b c1l tp D4 m4 s4 e4 tpb tpl ms D5 m5 s5 e5 msb msl
                have B5 : Bag D5 b l := ((B2.same s3).same s4).same s5
                refine i_odd7 B5 e5 msb (Nat.le_of_ble_eq_true rfl) fun D6 v s6 B6 hv => ?_
                have s05 : Stp b H8 D5 := (((s1.trans s2).trans (Same.stp s3)).trans (Same.stp s4)).trans (Same.stp s5)
                have s06 : Stp b H8 D6 := s05.trans s6
                have hO : ∃ d, Odd K D6 b v d := by
                  rcases hv with ⟨h, _⟩ | hv
                  · exact h
                  · have et : D6 tp = some (.tup [.str z0]) := s6 _ _ tpb (s5 _ _ e4)
                    simp only [List.mem_cons, List.not_mem_nil, or_false] at hv
                    rcases hv with rfl | rfl | rfl | rfl
                    · clear s06 s05 s6 s5 s4 s3 s2 s1
                      tm_at "mkOdd"
                    · exact ⟨_, n1.odd⟩
                    · exact ⟨_, n2.odd⟩
                    · refine ⟨.tuple [.str z0], .tup (SqT.of et) tpb (Nat.le_of_ble_eq_true rfl) (.cons (.str n0.strK) .nil), by simp [dep, depA], 5000, .inr ⟨tp, [.str z0], [reprText z0], rfl, .inl (SqT.of et), .cons (.str z0 (Nat.le_trans n0.sho (by decide))) .nil, ?_⟩, Nat.le_refl _⟩
                      have q := n0.sho
                      unfold Sho at q
                      rw [piled_cons, piled_nil]
                      omega
                have S6 := S8.stp s06 B6
                have hL6 := hL.stp s06
                have e36 : D6 c1 = some (.lst (cutV us none (some sp))) := s6 _ _ c1b (s5 _ _ (s4 _ _ e3))
                have el6 := hL6.at_
                have lc1 : (cutV us none (some sp)).length ≤ 8 := Nat.le_trans len_cutV lu
                have lc2 : (cutV us (some sp) none).length ≤ 8 := Nat.le_trans len_cutV lu
                clear el ef
                tm_at "go"
                rename_i c2 D7 m7 s7 e7 c2b c2l
                refine Go.cat (s7 _ _ e36) e7 (Go.le_line (by simp only [List.length_cons, List.length_nil]; omega)) rfl ?_
                tm_at "go"
                rename_i c3 D8 m8 s8 e8 c3b c3l c4 D9 m9 s9 e9 c4b c4l
                refine Go.cat (s9 _ _ e8) e9 (Go.le_line (by simp only [List.length_append, List.length_cons, List.length_nil]; omega)) rfl ?_
                tm_at "go"
                rename_i c5 D10 m10 s10 e10 c5b c5l
                have sF : Same D6 D10 := ((s7.trans s8).trans s9).trans s10
                have sA : Stp b H8 D10 := s06.trans (Same.stp sF)
                refine ⟨c5, _, _, rfl, S6.same sF, ht.but sA, hV.stp B8 sA, ⟨e10, c5b, by simp only [List.length_append, List.length_cons, List.length_nil]; omega, fun y m => ?_⟩⟩
                obtain ⟨dv, hdv⟩ := hO
                have hLF := hL.stp sA
                rcases List.mem_append.mp m with m | m
                · rcases List.mem_append.mp m with m | m
                  · exact hLF.odd y (mem_cutV m)
                  · rw [List.mem_singleton.mp m]
                    exact ⟨dv, hdv.same sF⟩
                · exact hLF.odd y (mem_cutV m)
              · rename_i D1 d1 s1 B1 d10 d11 hz
                exact ⟨q8, us, _, rfl, S8.stp s1 B1, ht.but s1, hV.stp B8 s1, hL.stp s1⟩
            · clear S8 ht hV hL
              rintro σ' H9 ⟨q8, us, v9, rfl, S9, ht, hV, hL⟩
              refine Go.cut (fun σ' H' => ∃ (v : V) (lot : Option (List V)), σ' = [some (.ref a), some (.ref b), some (.ref pl), some (.int (0 + (i : Int))), some (.ref fw), some t, some (.ref p6), v7, some v, v9, v10, v11, v12, v13] ∧ St7 TT b l pl fw [.str z0, .str z1, .str z2, .str z3, .str z4, .str z5, .str z6, .str z7, .str z8, .str z9, .str z10, .str z11, .str z12, .str z13, .str z14, .str z15, .str z16] [.str z0, .str z1, .str z2, .str z3] H' ∧ Odd K H' b t d ∧ Vl K Z b p6 vs kd H' ∧ LotV K H' b v lot) ?_ ?_
              · have B9 := S9.bag
                have epl := S9.pool
                have el := hL.at_
                have nqb := hL.ne
                have npb' := S9.npb
                have lu := hL.len
                tm_at "go"
                rename_i tq D1 m1 s1 e1 tqb tql pq D2 m2 s2 e2 pqb pql c3 D3 m3 s3 e3 c3b c3l
                replace e3 : D3 c3 = some (.lst [.str z8, .str z9, .str z10, .str z11, .str z12, .str z13, .str z14, .str z15, .str z16]) := e3
                refine Go.cat (s3 _ _ (s2 _ _ (s1 _ _ el))) e3 (Go.le_line (by simp only [List.length_cons, List.length_nil]; omega)) rfl ?_
                tm_at "go"
                rename_i cq D4 m4 s4 e4 cqb cql bg D5 m5 s5 e5 bgb bgl D6 v s6 B6 hv
                have sF : Same H9 D5 := (((s1.trans s2).trans s3).trans s4).trans s5
                have sA : Stp b H9 D6 := (Same.stp sF).trans s6
                have hL6 := hL.stp sA
                have et : D6 tq = some (.tup us) := s6 _ _ tqb (s5 _ _ (s4 _ _ (s3 _ _ (s2 _ _ e1))))
                have ep : D6 pq = some (.lst [.str z9]) := s6 _ _ pqb (s5 _ _ (s4 _ _ (s3 _ _ e2)))
                have ec : D6 cq = some (.lst (us ++ [.str z8, .str z9, .str z10, .str z11, .str z12, .str z13, .str z14, .str z15, .str z16])) := s6 _ _ cqb (s5 _ _ e4)
                have hLot : ∃ lot, LotV K D6 b v lot := by
                  simp only [List.mem_cons, List.not_mem_nil, or_false] at hv
                  rcases hv with rfl | rfl | rfl | rfl | rfl | rfl | rfl | rfl | rfl
                  · exact ⟨_, hL6.lot⟩
                  · exact ⟨_, hL6.lot⟩
                  · exact ⟨_, odds_lot (.inr (SqT.of et)) (by omega) hL6.odd⟩
                  · exact ⟨_, odds_lot (.inl (SqL.of ep)) (Nat.le_of_ble_eq_true rfl) (mem1 ⟨_, n9.odd⟩)⟩
                  · exact ⟨_, .no flatK.non⟩
                  · exact ⟨_, .no flatK.int⟩
                  · exact ⟨_, .no (flatK.str (strK_lit (by decide +kernel)))⟩
                  · refine ⟨_, odds_lot (.inl (SqL.of ec)) (by simp only [List.length_append, List.length_cons, List.length_nil]; omega) (mema hL6.odd ?_)⟩
                    exact memc ⟨_, n8.odd⟩ (memc ⟨_, n9.odd⟩ (memc ⟨_, n10.odd⟩ (memc ⟨_, n11.odd⟩ (memc ⟨_, n12.odd⟩ (memc ⟨_, n13.odd⟩ (memc ⟨_, n14.odd⟩ (memc ⟨_, n15.odd⟩ (memc ⟨_, n16.odd⟩ mem0))))))))
                  · exact ⟨_, .no flatK.bl⟩
                obtain ⟨lot, hlot⟩ := hLot
                exact ⟨v, lot, rfl, S9.stp sA B6, ht.but sA, hV.stp B9 sA, hlot⟩
              · clear S9 ht hV hL
                rintro σ' HA ⟨v, lot, rfl, SA, ht, hV, hlot⟩
                obtain ⟨x0, x1, x2, k0, k1, k2, rfl, rfl⟩ := three hV.val lv
                tm_at "go"
                refine ⟨b, p6, t, v, d, [x0, x1, x2], _, lot, rfl, ht.dt, SqL.of hV.at_, hV.pn T, Nat.le_of_ble_eq_true rfl, hlot, fun HB td sB nB wB => ?_⟩
                have SB := SA.same sB
                have htB := ht.same sB
                have hVB := hV.same sB
                have hlB := hlot.same sB
                have TB0 := SB.tab
                have BB0 := SB.bag
                clear SA ht hV hlot sB nB
                tm_at "go"
                rename_i f0 c0 dV0 do0 pm0 ct0 F0 w0 nf0 T0 hF0 hC0 hD0 ak J0 m0 j0 ea akb akl
                refine Go.cut (fun σ' H' => ∃ v8 v10 v11 : Option V, σ' = [some (.ref a), some (.ref b), some (.ref pl), some (.int (0 + (i : Int))), some (.ref fw), some t, some (.ref p6), v7, v8, v9, v10, v11, v12, v13] ∧ St7 TT b l pl fw [.str z0, .str z1, .str z2, .str z3, .str z4, .str z5, .str z6, .str z7, .str z8, .str z9, .str z10, .str z11, .str z12, .str z13, .str z14, .str z15, .str z16] [.str z0, .str z1, .str z2, .str z3] H' ∧ Odd K H' b t d) ?_ ?_
                · have W0 : Go.Grow HB J0 := w0.trans (Go.Grow.same j0)
                  have gF0 := Go.oX (Go.Grow.same j0) Go.funO_ne hF0
                  have gC0 := Go.oX (Go.Grow.same j0) LamX.codeO_ne hC0
                  have gD0 := defsS j0 hD0
                  have BJ : Bag J0 b l := BB0.grow W0
                  have TJ : Tabs TT J0 := tabS j0 T0
                  have htJ := htB.grow W0
                  have hVJ := hVB.grow W0
                  have hlJ := hlB.grow W0
                  have wJ : WhyAt (wy (objE ko0 t ([k0, k1, k2].map Kd.pn) lot false)) J0 td := wB.tups fun a ys e => Go.oX W0 Go.tup_ne e
                  have epl := Go.oX W0 Go.lst_ne SB.pool
                  have ef := Go.oX W0 Go.lst_ne SB.few
                  have npb' := SB.npb
                  have nfb' := SB.nfb
                  clear w0 hF0 hC0 hD0 nf0 T0 m0 j0 W0 SB htB hVB hlB TB0 BB0 wB
                  tm_at "go"
                  refine whysW [wy (objE ko0 t ([k0, k1, k2].map Kd.pn) lot false)] (SqL.of ea) rfl (Nat.le_of_ble_eq_true rfl) ?_ ?_ ?_
                  · intro y m
                    rcases List.mem_cons.mp m with rfl | m
                    · exact ⟨rfl, ⟨_, rfl⟩, (show List.lookup _ (defScope s_law).names = some .cell by decide +kernel), rfl⟩
                    rcases List.mem_cons.mp m with rfl | m
                    · exact ⟨rfl, ⟨_, rfl⟩, (show List.lookup _ (defScope s_law).names = some .cell by decide +kernel), rfl⟩
                    rcases List.mem_cons.mp m with rfl | m
                    · exact ⟨rfl, ⟨_, rfl⟩, (show List.lookup _ (defScope s_law).names = some .cell by decide +kernel), rfl⟩
                    cases m
                  · intro cs C off n x' hx
                    match n, hx with
                    | 0, hx =>
                      cases hx
                      refine' (ask_g0 (EK := EK7 k kb) (k := 13) (N := ["_law_title", "_law_values", "_law_lot"]) (fr := ["_law_title", "_law_values", "_law_lot"]) (ws := [t, .ref p6, v]) (objE k t ([k0, k1, k2].map Kd.pn) lot false) ?S0 C off (.cons (C.cap (.head _) rfl) (.cons (C.cap (.tail _ (.head _)) rfl) (.cons (C.cap (.tail _ (.tail _ (.head _))) rfl) .nil))) ?hF0 ?hC0 ?hD0 ?hb00 ?body0 objE_in ?hb0).to objE_wy
                      (case hF0 => exact gF0)
                      (case hC0 => exact gC0)
                      (case hD0 => exact gD0)
                      (case hb00 => exact rfl)
                      (case S0 => exact nscope_by (by decide +kernel))
                      (case body0 => exact fun A outer s H E hr => (StkX.pe_makeRW T.mk_Object G_Object___init__W (hr.mono (by omega)) (by rfl) T.m_Object LendN.passL (pa_cons (pv 0) (pa_cons (pe_ix (ix_list : IxR _ (rIxL K)) (pv 1) pe_int (fun _ _ => rfl)) (pa_cons (pe_ix (ix_list : IxR _ (rIxL K)) (pv 1) pe_int (fun _ _ => rfl)) (pa_cons (pe_ix (ix_list : IxR _ (rIxL K)) (pv 1) pe_int (fun _ _ => rfl)) pa_nil)))) (pk_cons (pv 2) pk_nil)))
                      (case hb0 =>
                        intro Gc Qc Ec sc en
                        have cV := hVJ.same sc
                        have ct' := htJ.same sc
                        have cl := hlJ.same sc
                        have e6 := cV.at_
                        clear sc
                        tm_at "go"
                        exact i_objE (b := b) (d := d) (xs := [x0, x1, x2]) ct'.dt (fun _ => ct'.shows) (cV.pn T) (Nat.le_of_ble_eq_true rfl) cl rfl en)
                    | n + 1, hx => cases hx
                  · intro G tr tss sG nt' etr hpp
                    have BG := BJ.same sG
                    have TG := tabS sG TJ
                    have htG := htJ.same sG
                    have wG := wJ.same sG
                    obtain ⟨D, hD, dD⟩ := objE_whyD (k := ko0) (nm := t) (os := [k0, k1, k2].map Kd.pn) (lot := lot) (wide := false) htG.dt htG.deep (pnK hVJ.val)
                    have xA : Dt K G b (.ref tr) (.list [D]) := .lst (SqL.of etr) (BJ.ne nt') (by rw [List.length_map, Paired.length hpp]; exact Nat.le_of_ble_eq_true rfl) (paired_dt BG hpp (.cons hD .nil))
                    have xB := wG.dt BG hD
                    have epG := sG _ _ epl
                    have efG := sG _ _ ef
                    clear gF0 gC0 gD0 hpp etr sG
                    tm_at "go"
                    rename_i dl G1 m1 s1 e1 dlb dll G2 s2
                    have S12 : Same G G2 := s1.trans s2
                    exact ⟨_, _, _, rfl, ⟨BG.same S12, tabS S12 TG, S12 _ _ epG, S12 _ _ efG, npb', nfb'⟩, htG.same S12⟩
                · clear w0 hF0 hC0 hD0 nf0 T0 m0 j0 ea SB htB hVB hlB TB0 BB0 wB
                  rintro σ' HC ⟨v8, v10, v11, rfl, SC, ht⟩
                  refine Go.cut (fun σ' H' => ∃ (p6 : Addr) (vs : List V) (kd : List Kd) (v7 : Option V), σ' = [some (.ref a), some (.ref b), some (.ref pl), some (.int (0 + (i : Int))), some (.ref fw), some t, some (.ref p6), v7, v8, v9, v10, v11, v12, v13] ∧ St7 TT b l pl fw [.str z0, .str z1, .str z2, .str z3, .str z4, .str z5, .str z6, .str z7, .str z8, .str z9, .str z10, .str z11, .str z12, .str z13, .str z14, .str z15, .str z16] [.str z0, .str z1, .str z2, .str z3] H' ∧ Odd K H' b t d ∧ Vl K Z b p6 vs kd H' ∧ vs.length = 3) ?_ ?_
                  · tm_at "go"
                    refine Go.lc_w walk_range (fun L i' H' => Stp b HC H' ∧ Bag H' b l ∧ HC L = none ∧ L ≠ l ∧ i' ≤ 3 ∧ ∃ vs kd, Vl K Z b L vs kd H' ∧ vs.length = i') (by tm_at "wipe") ?_ (fun _ _ _ _ _ => trivial) ?_ ?_
                    · intro L H2 n0 s2 e2
                      exact ⟨Same.stp s2, SC.bag.same s2, n0, SC.bag.nel n0, Nat.zero_le _, [], [], ⟨e2, SC.bag.ne n0, .nil⟩, rfl⟩
                    · rintro L j x Hx H2 hj ⟨s2, B2, nL, Ll, lj, vs, kd, hV, lv⟩ ⟨rfl, rfl⟩
                      have S2 := SC.stp s2 B2
                      have ef := S2.few
                      have hj' : j < 3 := hj
                      have fin : ∀ (D4 D5 : Hp) (v : V) (k : Kd), Stp b H2 D4 → Bag D4 b l → Stp b D4 D5 → Bag D5 b l → Val K Z D5 b L v k → Go.LcEnd L (fun H' => Stp b HC H' ∧ Bag H' b l ∧ HC L = none ∧ L ≠ l ∧ j + 1 ≤ 3 ∧ ∃ vs kd, Vl K Z b L vs kd H' ∧ vs.length = j + 1) v D5 := by
                        intro D4 D5 v k s4 B4 s5 B5 hv
                        have h4 := hV.stp B2 s4
                        have h5 := h4.stp B4 s5
                        refine Go.lcEnd h5.at_ (Go.lt_line (by omega)) fun H6' s6 e6 => ?_
                        exact ⟨((s2.trans s4).trans s5).own nL s6, B5.but s6 hV.ne.symm Ll.symm, nL, Ll, by omega, _, _, Vl.add h4 B4 s5 hv s6 e6, by rw [List.length_append, lv]; rfl⟩
                      tm_at "go"
                      · rename_i D1 d1 s1 B1 d10 d11 hd D2 v s3 B3 hv
                        obtain ⟨z, rfl, hz⟩ := of4 hv n0 n1 n2 n3
                        refine i_objD (b := b) hz (T.v_e_Object___init___outside _) fun D3 ob q1 q2 s4 nx _ _ hx => ?_
                        obtain ⟨dx, fs, ex, lx⟩ := hx.pc
                        exact fin D2 D3 _ (.obj z) (s1.trans s3) B3 (Same.stp s4) (B3.same s4) (.obj ex lx hz)
                      · rename_i D1 d1 s1 B1 d10 d11 hd
                        refine i_archive (b := b) (kb := kb) (d := .str z0) (xs := []) (os := ([] : List Str).map some) (.str n0.strK) (fun c => by rw [nmV_of n0] at c; cases c) .nil (Nat.zero_le _) (fun e ys h => by rw [ar_ok (nmV_of n0) (Nat.zero_le _) List.nodup_nil] at h; cases h) fun _ D3 ar dx q1 fs s3 nx ex _ _ _ => ?_
                        have ef3 := s3 _ _ (s1 _ _ S2.nfb ef)
                        tm_at "go"
                        refine i_small n1 fun D7 pc dx2 fs2 s4 nx2 ex2 lx2 => ?_
                        tm_at "go"
                        rename_i q4 D9 n4 s9 e4 b4 l4
                        refine i_odd7 (((B1.same s3).same s4).same s9) e4 b4 (Nat.le_of_ble_eq_true rfl) fun D5 v s5 B5 hv => ?_
                        have sD : Stp b H2 D9 := ((s1.trans (Same.stp s3)).trans (Same.stp s4)).trans (Same.stp s9)
                        have nr : ∀ a : Addr, D9 a = none → a ≠ L := fun a h z => by
                          have q := (hV.stp B2 sD).at_
                          rw [← z, h] at q
                          cases q
                        have hk : ∃ k, Val K Z D5 b L v k := by
                          rcases hv with ⟨⟨d, ho⟩, hn⟩ | hv
                          · exact ⟨_, .odd ⟨ho, fun a e => nr a (hn a e)⟩⟩
                          · obtain ⟨yb, eb⟩ := bag_lst (((B1.same s3).same s4).same s9)
                            simp only [List.mem_cons, List.not_mem_nil, or_false] at hv
                            rcases hv with rfl | rfl
                            · have h1 := s9 _ _ (s4 _ _ ex)
                              exact ⟨_, .arch (s5 _ _ (ins_ne h1 eb) h1)⟩
                            · have h1 := s9 _ _ ex2
                              exact ⟨_, .piece (s5 _ _ (ins_ne h1 eb) h1) lx2 n1⟩
                        obtain ⟨k, hk⟩ := hk
                        exact fin D9 D5 v k sD ((((B1.same s3).same s4).same s9)) s5 B5 hk
                    · rintro L H2 ⟨s2, B2, nL, Ll, lj, vs, kd, hV, lv⟩
                      tm_at "go"
                      exact ⟨L, vs, kd, _, rfl, SC.stp s2 B2, ht.but s2, hV, lv⟩
                  · clear SC ht
                    rintro σ' HA ⟨p6, vs, kd, v7, rfl, SA, ht, hV, lv⟩
                    obtain ⟨x0, x1, x2, k0, k1, k2, rfl, rfl⟩ := three hV.val lv
                    have TA := SA.tab
                    have BA := SA.bag
                    tm_at "go"
                    rename_i f0 c0 dV0 do0 pm0 ct0 F0 w0 nf0 T0 hF0 hC0 hD0 ak J0 m0 j0 ea akb akl
                    have W0 : Go.Grow HA J0 := w0.trans (Go.Grow.same j0)
                    have gF0 := Go.oX (Go.Grow.same j0) Go.funO_ne hF0
                    have gC0 := Go.oX (Go.Grow.same j0) LamX.codeO_ne hC0
                    have gD0 := defsS j0 hD0
                    have BJ : Bag J0 b l := BA.grow W0
                    have TJ : Tabs TT J0 := tabS j0 T0
                    have htJ := ht.grow W0
                    have hVJ := hV.grow W0
                    have epl := Go.oX W0 Go.lst_ne SA.pool
                    clear w0 hF0 hC0 hD0 nf0 T0 m0 j0 W0 SA ht hV TA BA
                    refine whysW [wy (archE ko0 0 t ([k0, k1, k2].map Kd.on))] (SqL.of ea) rfl (Nat.le_of_ble_eq_true rfl) ?_ ?_ ?_
                    · intro y m
                      rcases List.mem_cons.mp m with rfl | m
                      · exact ⟨rfl, ⟨_, rfl⟩, (show List.lookup _ (defScope s_law).names = some .cell by decide +kernel), rfl⟩
                      rcases List.mem_cons.mp m with rfl | m
                      · exact ⟨rfl, ⟨_, rfl⟩, (show List.lookup _ (defScope s_law).names = some .cell by decide +kernel), rfl⟩
                      cases m
                    · intro cs C off n x' hx
                      match n, hx with
                      | 0, hx =>
                        cases hx
                        refine' (ask_g0 (EK := EK7 k kb) (k := 13) (N := ["_law_title", "_law_values"]) (fr := ["_law_title", "_law_values"]) (ws := [t, .ref p6]) (archE k kb t ([k0, k1, k2].map Kd.on)) ?S1 C off (.cons (C.cap (.head _) rfl) (.cons (C.cap (.tail _ (.head _)) rfl) .nil)) ?hF1 ?hC1 ?hD1 ?hb01 ?body1 archE_in ?hb1).to archE_wy
                        (case hF1 => exact gF0)
                        (case hC1 => exact gC0)
                        (case hD1 => exact gD0)
                        (case hb01 => exact rfl)
                        (case S1 => exact nscope_by (by decide +kernel))
                        (case body1 => exact fun A outer s H E hr => (StX.pe_makeR T.mk_Archive G_Archive___init__ (hr.mono (by omega)) (by rfl) T.m_Archive LendN.passL (pa_cons (pv 0) (pa_cons (pe_ix (ix_list : IxR _ (rIxL K)) (pv 1) pe_int (fun _ _ => rfl)) (pa_cons (pe_ix (ix_list : IxR _ (rIxL K)) (pv 1) pe_int (fun _ _ => rfl)) (pa_cons (pe_ix (ix_list : IxR _ (rIxL K)) (pv 1) pe_int (fun _ _ => rfl)) pa_nil))))))
                        (case hb1 =>
                          intro Gc Qc Ec sc en
                          have cV := hVJ.same sc
                          have ct' := htJ.same sc
                          have e6 := cV.at_
                          clear sc
                          tm_at "go"
                          exact i_archE (b := b) (kb := kb) (d := d) (xs := [x0, x1, x2]) ct'.dt (fun _ => ct'.shows) (cV.on T) (Nat.le_of_ble_eq_true rfl) rfl en)
                      | n + 1, hx => cases hx
                    · intro G tr tss sG nt' etr hpp
                      have BG := BJ.same sG
                      have TG := tabS sG TJ
                      have htG := htJ.same sG
                      have hVG := hVJ.same sG
                      obtain ⟨D, hD, dD⟩ := archE_whyD (k := ko0) (kb := 0) (nm := t) (os := [k0, k1, k2].map Kd.on) htG.dt htG.deep (onK hVJ.val)
                      have xA : Dt K G b (.ref tr) (.list [D]) := .lst (SqL.of etr) (BJ.ne nt') (by rw [List.length_map, Paired.length hpp]; exact Nat.le_of_ble_eq_true rfl) (paired_dt BG hpp (.cons hD .nil))
                      have epG := sG _ _ epl
                      clear gF0 gC0 gD0 hpp etr sG
                      tm_at "go"
                      refine ⟨b, p6, t, d, [x0, x1, x2], _, rfl, htG.dt, SqL.of hVG.at_, hVG.on T, Nat.le_of_ble_eq_true rfl, fun G1 td s1 nd wd => ?_⟩
                      have xB := wd.dt (BG.same s1) (hD.same s1)
                      tm_at "go"
                      rename_i dl G2 m2 s2 e2 dlb dll G3 s3
                      have S13 : Same G G3 := (s1.trans s2).trans s3
                      exact ⟨_, _, _, _, _, _, _, _, _, _, _, rfl, BG.same S13, tabS S13 TG, S13 _ _ epG⟩
    · clear B2 T2 ep s2
      rintro σ H4 ⟨v3, v4, v5, v6, v7, v8, v9, v10, v11, v12, v13, rfl, B4, T4, ep⟩
      tm_at "go"
      refine i_small n0 fun D1 x1 dx1 fs1 s1 nx1 ex1 lx1 => ?_
      have ep1 := s1 _ _ ep
      tm_at "go"
      refine i_small n1 fun D2 x2 dx2 fs2 s2 nx2 ex2 lx2 => ?_
      have P1 : Pc D2 Z.C_Piece x1 z0 := Pc.same s2 ⟨dx1, fs1, ex1, lx1⟩
      have P2 : Pc D2 Z.C_Piece x2 z1 := ⟨dx2, fs2, ex2, lx2⟩
      have ep2 := s2 _ _ ep1
      have BD : Bag D2 b l := (B4.same s1).same s2
      have TD : Tabs TT D2 := tabS s2 (tabS s1 T4)
      clear ep ep1 B4 T4 ex1 lx1 ex2 lx2 s1 s2 nx1 nx2
      tm_at "go"
      rename_i tq D3 mq sq eq1 _ _ f0 c0 dV0 do0 pm0 ct0 F0 w0 nf0 T0 hF0 hC0 hD0 f1 c1 dV1 do1 pm1 ct1 F1 w1 nf1 T1 hF1 hC1 hD1 f2 c2 dV2 do2 pm2 ct2 F2 w2 nf2 T2 hF2 hC2 hD2 f3 c3 dV3 do3 pm3 ct3 F3 w3 nf3 T3 hF3 hC3 hD3 f4 c4 dV4 do4 pm4 ct4 F4 w4 nf4 T4 hF4 hC4 hD4 f5 c5 dV5 do5 pm5 ct5 F5 w5 nf5 T5 hF5 hC5 hD5 f6 c6 dV6 do6 pm6 ct6 F6 w6 nf6 T6 hF6 hC6 hD6 ak J0 m0 j0 ea _ _ t1 J1 m1 j1 e1 b1 _ t2 J2 m2 j2 e2 b2 _ t3 J3 m3 j3 e3 b3 _ t4 J4 m4 j4 e4 b4 _ t5 J5 m5 j5 e5 b5 _ t6 J6 m6 j6 e6 b6 _ t7 J7 m7 j7 e7 b7 _ t8 J8 m8 j8 e8 b8 _ t9 J9 m9 j9 e9 b9 _ t10 J10 m10 j10 e10 b10 _ t11 J11 m11 j11 e11 b11 _
      have S11 : Same J11 J11 := Same.refl _
      have S10 := j11.trans S11
      have S9 := j10.trans S10
      have S8 := j9.trans S9
      have S7 := j8.trans S8
      have S6 := j7.trans S7
      have S5 := j6.trans S6
      have S4 := j5.trans S5
      have S3 := j4.trans S4
      have S2 := j3.trans S3
      have S1 := j2.trans S2
      have S0 := j1.trans S1
      have W6 : Go.Grow F6 J11 := Go.Grow.same (j0.trans S0)
      have W5 := w6.trans W6
      have W4 := w5.trans W5
      have W3 := w4.trans W4
      have W2 := w3.trans W3
      have W1 := w2.trans W2
      have W0 := w1.trans W1
      have G0 : Go.Grow D2 J11 := (Go.Grow.same sq).trans (w0.trans W0)
      have gF0 := Go.oX W0 Go.funO_ne hF0
      have gC0 := Go.oX W0 LamX.codeO_ne hC0
      have gD0 := defsX W0 hD0
      have gF1 := Go.oX W1 Go.funO_ne hF1
      have gC1 := Go.oX W1 LamX.codeO_ne hC1
      have gD1 := defsX W1 hD1
      have gF2 := Go.oX W2 Go.funO_ne hF2
      have gC2 := Go.oX W2 LamX.codeO_ne hC2
      have gD2 := defsX W2 hD2
      have gF3 := Go.oX W3 Go.funO_ne hF3
      have gC3 := Go.oX W3 LamX.codeO_ne hC3
      have gD3 := defsX W3 hD3
      have gF4 := Go.oX W4 Go.funO_ne hF4
      have gC4 := Go.oX W4 LamX.codeO_ne hC4
      have gD4 := defsX W4 hD4
      have gF5 := Go.oX W5 Go.funO_ne hF5
      have gC5 := Go.oX W5 LamX.codeO_ne hC5
      have gD5 := defsX W5 hD5
      have gF6 := Go.oX W6 Go.funO_ne hF6
      have gC6 := Go.oX W6 LamX.codeO_ne hC6
      have gD6 := defsX W6 hD6
      have q1 : J11 t1 = some (.tup [.int 1]) := S1 _ _ e1
      have q2 : J11 t2 = some (.tup [.str "InvalidOutside", .ref t1]) := S2 _ _ e2
      have q3 : J11 t3 = some (.tup [.int 1]) := S3 _ _ e3
      have q4 : J11 t4 = some (.tup [.str "InvalidOutside", .ref t3]) := S4 _ _ e4
      have q5 : J11 t5 = some (.tup [.int 0]) := S5 _ _ e5
      have q6 : J11 t6 = some (.tup [.str "InvalidOutside", .ref t5]) := S6 _ _ e6
      have q7 : J11 t7 = some (.tup [.int 2]) := S7 _ _ e7
      have q8 : J11 t8 = some (.tup [.str "InvalidPiece", .ref t7]) := S8 _ _ e8
      have q9 : J11 t9 = some (.tup [.int (-1)]) := S9 _ _ e9
      have q10 : J11 t10 = some (.tup [.str "InvalidOutside", .ref t9]) := S10 _ _ e10
      have q11 : J11 t11 = some (.lst [.ref t2, .ref t4, .ref t6, .ref t8, .ref t10]) := e11
      have BJ : Bag J11 b l := BD.grow G0
      have TJ : Tabs TT J11 := tabS (j0.trans S0) T6
      have eak := S0 _ _ ea
      have P1J := P1.grow G0
      have P2J := P2.grow G0
      have epJ := Go.oX G0 Go.lst_ne ep2
      clear w0 W0 nf0 T0 hF0 hC0 hD0 w1 W1 nf1 T1 hF1 hC1 hD1 w2 W2 nf2 T2 hF2 hC2 hD2 w3 W3 nf3 T3 hF3 hC3 hD3 w4 W4 nf4 T4 hF4 hC4 hD4 w5 W5 nf5 T5 hF5 hC5 hD5 w6 W6 nf6 T6 hF6 hC6 hD6 m1 j1 e1 S1 m2 j2 e2 S2 m3 j3 e3 S3 m4 j4 e4 S4 m5 j5 e5 S5 m6 j6 e6 S6 m7 j7 e7 S7 m8 j8 e8 S8 m9 j9 e9 S9 m10 j10 e10 S10 m11 j11 e11 S11 S0 m0 j0 ea G0 BD TD P1 P2 ep2 sq mq eq1
      have d2 : Dt K J11 b (.ref t2) (.tuple [.str "InvalidOutside", .tuple [.int 1]]) := by tm_at "dt"
      have d4 : Dt K J11 b (.ref t4) (.tuple [.str "InvalidOutside", .tuple [.int 1]]) := by tm_at "dt"
      have d6 : Dt K J11 b (.ref t6) (.tuple [.str "InvalidOutside", .tuple [.int 0]]) := by tm_at "dt"
      have d8 : Dt K J11 b (.ref t8) (.tuple [.str "InvalidPiece", .tuple [.int 2]]) := by tm_at "dt"
      have d10 : Dt K J11 b (.ref t10) (.tuple [.str "InvalidOutside", .tuple [.int (-1)]]) := by tm_at "dt"
      clear q1 q2 q3 q4 q5 q6 q7 q8 q9 q10
      have nd01 : [z0, z1].Nodup := hzd.sublist (List.take_sublist 2 [z0, z1, z2, z3, z4, z5, z6, z7, z8, z9, z10, z11, z12, z13, z14, z15, z16])
      have n10 : ¬ z1 ∈ [z0] := fun m => (List.nodup_cons.mp nd01).1 (List.mem_singleton.mp m ▸ .head _)
      refine whysW [some ("InvalidOutside", [.int 1]), some ("InvalidOutside", [.int 1]), some ("InvalidOutside", [.int 0]), some ("InvalidPiece", [.int 2]), some ("InvalidOutside", [.int (-1)]), none, some ("InvalidPiece", [.int 0])] (SqL.of eak) rfl (Nat.le_of_ble_eq_true rfl) ?_ ?_ ?_
      · intro y m
        rcases List.mem_cons.mp m with rfl | m
        · exact ⟨rfl, ⟨_, rfl⟩, (show List.lookup _ (defScope s_law).names = some .cell by decide +kernel), rfl⟩
        rcases List.mem_cons.mp m with rfl | m
        · exact ⟨rfl, ⟨_, rfl⟩, (show List.lookup _ (defScope s_law).names = some .cell by decide +kernel), rfl⟩
        rcases List.mem_cons.mp m with rfl | m
        · exact ⟨rfl, ⟨_, rfl⟩, (show List.lookup _ (defScope s_law).names = some .cell by decide +kernel), rfl⟩
        cases m
      · intro cs C off n x' hx
        clear q11 d2 d4 d6 d8 d10
        match n, hx with
        | 0, hx =>
          cases hx
          refine' ask_g0 (EK := EK7 k kb) (k := 13) (N := ["_law_one", "_law_pool"]) (fr := ["_law_one", "_law_pool"]) (ws := [.ref x1, .ref pl]) (some (kOu k.o, [.int 1])) ?S0 C off (.cons (C.cap (.tail _ (.head _)) rfl) (.cons (C.cap (.head _) rfl) .nil)) ?hF0 ?hC0 ?hD0 ?hb00 ?body0 ?hk0 ?hb0
          (case hF0 => exact gF0)
          (case hC0 => exact gC0)
          (case hD0 => exact gD0)
          (case hb00 => exact rfl)
          (case S0 => exact nscope_by (by decide +kernel))
          (case body0 => exact fun A outer s H E hr => (StkX.pe_makeRW T.mk_Object G_Object___init__W (hr.mono (by omega)) (by rfl) T.m_Object LendN.passL (pa_cons pe_str (pa_cons (pv 0) pa_nil)) (pk_cons (pe_lst (pa_cons (pe_ix (ix_list : IxR _ (rIxL K)) (pv 1) pe_int (fun _ _ => rfl)) (pa_cons (pe_ix (ix_list : IxR _ (rIxL K)) (pv 1) pe_int (fun _ _ => rfl)) pa_nil))) pk_nil)))
          (case hk0 => exact (fun e xs h => by cases h; exact ⟨.tail _ (.tail _ (.tail _ (.tail _ (.head _)))), rfl⟩))
          (case hb0 =>
            intro Gc Qc Ec sc en
            have cp := sc _ _ epJ
            have cP1 := P1J.same sc
            have cP2 := P2J.same sc
            clear sc
            tm_at "go"
            rename_i u G1 m1 s1 e1
            exact i_objE (b := b) (d := .str "a") (xs := [.ref x1]) (os := [z0].map some) (lot := some [.str z1, .str z1]) (by tm_at "dt") (by tm_at "shw") (Paired.mapP (F := Ofc K Gc Z.C_Piece) (.cons (cP1.ofc T.n_Piece_name n0) .nil) fun _ _ e => e.same s1) (Nat.le_of_ble_eq_true rfl) (.seq (.inl (SqL.of e1)) (dtsN (us := [z1, z1]) (memc n1 (mem1 n1))) (Nat.le_of_ble_eq_true rfl)) (by
                              rw [ob_out (ns := [z0]) (by decide +kernel) (.inr ⟨Nat.le_of_ble_eq_true rfl, Nat.le_of_ble_eq_true rfl⟩) rfl, outE]
                              show (outA [z0] 0 ([z1].map V.str ++ V.str z1 :: [])).map _ = _
                              rw [outA_app n1 (List.nodup_cons.mpr ⟨List.not_mem_nil, List.nodup_nil⟩) (mem1 n10) (mem1 n1) (.inr (.head _))]
                              rfl) (en.later s1))
        | 1, hx =>
          cases hx
          refine' ask_g1 (EK := EK7 k kb) (k := 13) (N := ["_law_a", "_law_one", "_law_pool"]) (fr := ["_law_one", "_law_pool"]) (ws := [.ref x1, .ref pl]) (some (kOu k.o, [.int 1])) ?S1 C off (.cons (C.cap (.tail _ (.head _)) rfl) (.cons (C.cap (.head _) rfl) .nil)) ?hF1 ?hC1 ?hD1 ?hb01 ?body1 ?hk1 ?hb1
          (case hF1 => exact gF1)
          (case hC1 => exact gC1)
          (case hD1 => exact gD1)
          (case hb01 => exact ⟨_, rfl, fun _ => rfl⟩)
          (case S1 => exact nscope_by (by decide +kernel))
          (case body1 => exact fun A outer s H E hr => (StkX.pe_makeRW T.mk_Object G_Object___init__W (hr.mono (by omega)) (by rfl) T.m_Object LendN.passL (pa_cons pe_str (pa_cons (pv 1) pa_nil)) (pk_cons (pe_lst (pa_cons (pe_ix (ix_list : IxR _ (rIxL K)) (pv 2) pe_int (fun _ _ => rfl)) (pa_cons (pe_ix (ix_list : IxR _ (rIxL K)) (pv 2) pe_int (fun _ _ => rfl)) pa_nil))) pk_nil)))
          (case hk1 => exact (fun e xs h => by cases h; exact ⟨.tail _ (.tail _ (.tail _ (.tail _ (.head _)))), rfl⟩))
          (case hb1 =>
            intro Gc Qc Ec sc en
            have cp := sc _ _ epJ
            have cP1 := P1J.same sc
            have cP2 := P2J.same sc
            clear sc
            tm_at "go"
            rename_i u G1 m1 s1 e1
            exact i_objE (b := b) (d := .str "a") (xs := [.ref x1]) (os := [z0].map some) (lot := some [.str z1, .str z0]) (by tm_at "dt") (by tm_at "shw") (Paired.mapP (F := Ofc K Gc Z.C_Piece) (.cons (cP1.ofc T.n_Piece_name n0) .nil) fun _ _ e => e.same s1) (Nat.le_of_ble_eq_true rfl) (.seq (.inl (SqL.of e1)) (dtsN (us := [z1, z0]) (memc n1 (mem1 n0))) (Nat.le_of_ble_eq_true rfl)) (by
                              rw [ob_out (ns := [z0]) (by decide +kernel) (.inr ⟨Nat.le_of_ble_eq_true rfl, Nat.le_of_ble_eq_true rfl⟩) rfl, outE]
                              show (outA [z0] 0 ([z1].map V.str ++ V.str z0 :: [])).map _ = _
                              rw [outA_app n0 (List.nodup_cons.mpr ⟨List.not_mem_nil, List.nodup_nil⟩) (mem1 n10) (mem1 n1) (.inl (.head _))]
                              rfl) (en.later s1))
        | 2, hx =>
          cases hx
          refine' ask_g1 (EK := EK7 k kb) (k := 13) (N := ["_law_b", "_law_other", "_law_one", "_law_pool"]) (fr := ["_law_other", "_law_one", "_law_pool"]) (ws := [.ref x2, .ref x1, .ref pl]) (some (kOu k.o, [.int 0])) ?S2 C off (.cons (C.cap (.tail _ (.tail _ (.head _))) rfl) (.cons (C.cap (.tail _ (.head _)) rfl) (.cons (C.cap (.head _) rfl) .nil))) ?hF2 ?hC2 ?hD2 ?hb02 ?body2 ?hk2 ?hb2
          (case hF2 => exact gF2)
          (case hC2 => exact gC2)
          (case hD2 => exact gD2)
          (case hb02 => exact ⟨_, rfl, fun _ => rfl⟩)
          (case S2 => exact nscope_by (by decide +kernel))
          (case body2 => exact fun A outer s H E hr => (pe_meth (StkX.pe_makeRW T.mk_Object G_Object___init__W (hr.mono (by omega)) (by rfl) T.m_Object LendN.passL (pa_cons pe_str (pa_cons (pv 2) pa_nil)) (pk_cons (pe_lst (pa_cons (pe_ix (ix_list : IxR _ (rIxL K)) (pv 3) pe_int (fun _ _ => rfl)) pa_nil)) pk_nil)) T.cl_Object T.M_Object_with_piece G_Object_with_piece (hr.mono (by omega)) T.b_Object_with_piece .nil LendN.passL (pa_cons (pv 1) pa_nil)))
          (case hk2 => exact (fun e xs h => by cases h; exact ⟨.tail _ (.tail _ (.tail _ (.tail _ (.head _)))), rfl⟩))
          (case hb2 =>
            intro Gc Qc Ec sc en
            have cp := sc _ _ epJ
            have cP1 := P1J.same sc
            have cP2 := P2J.same sc
            clear sc
            refine methg ?_
            tm_at "go"
            rename_i u G1 m1 s1 e1
            refine i_obj (b := b) (d := .str "a") (xs := [.ref x1]) (os := [z0].map some) (lot := some ([z1].map V.str)) (by tm_at "dt") (by tm_at "shw") (Paired.mapP (F := Ofc K Gc Z.C_Piece) (.cons (cP1.ofc T.n_Piece_name n0) .nil) fun _ _ e => e.same s1) (Nat.le_of_ble_eq_true rfl) (.seq (.inl (SqL.of e1)) (dtsN (us := [z1]) (mem1 n1)) (Nat.le_of_ble_eq_true rfl)) (fun e ys h => by rw [show objE k (.str "a") ([z0].map some) (some ([z1].map V.str)) false = none from ob_ok (by decide +kernel) (.inr ⟨Nat.le_of_ble_eq_true rfl, Nat.le_of_ble_eq_true rfl⟩) nd01 (mem1 n1)] at h; cases h) fun ys _ hy G2 x q1 q2 s2 _ _ _ hx => ?_
            cases hy
            refine mwW hx ?_
            tm_at "go"
            have s12 := s1.trans s2
            refine i_withE (b := b) (ns := [z0]) hx nmA (Paired.mapP (F := Ofc K Gc Z.C_Piece) (.cons (cP1.ofc T.n_Piece_name n0) .nil) fun _ _ e => e.same s12) (Nat.le_of_ble_eq_true rfl) (dtsN (us := [z1]) (mem1 n1)) (Nat.le_of_ble_eq_true rfl) ((cP2.same s12).ofc T.n_Piece_name n1) ?_ (en.later s12)
            rw [wpi_none n10]
            show objE k (.str "a") ([z0, z1].map some) (some [.str z1]) false = _
            rw [ob_out (ns := [z0, z1]) (by decide +kernel) (.inr ⟨Nat.le_of_ble_eq_true rfl, Nat.le_of_ble_eq_true rfl⟩) (dupA_cl nd01 fun _ _ => List.not_mem_nil), outE]
            show (outA [z1, z0] 0 (([] : List Str).map V.str ++ V.str z1 :: [])).map _ = _
            rw [outA_app n1 List.nodup_nil (fun _ h => nomatch h) (fun _ h => nomatch h) (.inl (.head _))]
            rfl)
        | 3, hx =>
          cases hx
          refine' ask_g1 (EK := EK7 k kb) (k := 13) (N := ["_law_c", "_law_other", "_law_one"]) (fr := ["_law_other", "_law_one"]) (ws := [.ref x2, .ref x1]) (some (kPc k.p, [.int 2])) ?S3 C off (.cons (C.cap (.tail _ (.tail _ (.head _))) rfl) (.cons (C.cap (.tail _ (.head _)) rfl) .nil)) ?hF3 ?hC3 ?hD3 ?hb03 ?body3 ?hk3 ?hb3
          (case hF3 => exact gF3)
          (case hC3 => exact gC3)
          (case hD3 => exact gD3)
          (case hb03 => exact ⟨_, rfl, fun _ => rfl⟩)
          (case S3 => exact nscope_by (by decide +kernel))
          (case body3 => exact fun A outer s H E hr => (pe_meth (pe_meth (StX.pe_makeR T.mk_Object G_Object___init__ (hr.mono (by omega)) (by rfl) T.m_Object LendN.passL (pa_cons pe_str (pa_cons (pv 2) pa_nil))) T.cl_Object T.M_Object_with_piece G_Object_with_piece (hr.mono (by omega)) T.b_Object_with_piece .nil LendN.passL (pa_cons (pv 1) pa_nil)) T.cl_Object T.M_Object_with_piece G_Object_with_piece (hr.mono (by omega)) T.b_Object_with_piece .nil LendN.passL (pa_cons pe_str pa_nil)))
          (case hk3 => exact (fun e xs h => by cases h; exact ⟨.tail _ (.head _), rfl⟩))
          (case hb3 =>
            intro Gc Qc Ec sc en
            have cp := sc _ _ epJ
            have cP1 := P1J.same sc
            have cP2 := P2J.same sc
            clear sc
            refine methg (methg ?_)
            tm_at "go"
            refine i_obj (b := b) (d := .str "a") (xs := [.ref x1]) (os := [z0].map some) (lot := some []) (by tm_at "dt") (by tm_at "shw") (.cons (cP1.ofc T.n_Piece_name n0) .nil) (Nat.le_of_ble_eq_true rfl) (.seq (.inr (T.v_e_Object___init___outside _)) .nil (Nat.zero_le _)) (fun e ys h => by rw [show objE k (.str "a") ([z0].map some) (some []) false = none from ob_ok (us := []) (by decide +kernel) (.inr ⟨Nat.le_of_ble_eq_true rfl, Nat.zero_le _⟩) (by simp) (fun _ h => nomatch h)] at h; cases h) fun ys _ hy G2 x q1 q2 s2 _ _ _ hx => ?_
            cases hy
            refine mwW hx ?_
            tm_at "go"
            refine i_withO (b := b) (ns := [z0]) (ds := []) hx nmA (Paired.mapP (F := Ofc K Gc Z.C_Piece) (.cons (cP1.ofc T.n_Piece_name n0) .nil) fun _ _ e => e.same s2) (Nat.le_of_ble_eq_true rfl) .nil (Nat.zero_le _) ((cP2.same s2).ofc T.n_Piece_name n1) ?_ fun G3 y q3 q4 s3 _ _ _ hy => ?_
            · rw [wpi_none n10]
              exact ob_ok (ns := [z0, z1]) (us := []) (by decide +kernel) (.inr ⟨Nat.le_of_ble_eq_true rfl, Nat.zero_le _⟩) nd01 (fun _ h => nomatch h)
            rw [wpi_none n10] at hy
            refine mwW hy ?_
            tm_at "go"
            have s23 := s2.trans s3
            exact i_withE (b := b) (ns := [z0, z1]) (o := none) (ds := []) hy nmA (.cons ((cP1.same s23).ofc T.n_Piece_name n0) (.cons ((cP2.same s23).ofc T.n_Piece_name n1) .nil)) (Nat.le_of_ble_eq_true rfl) .nil (Nat.zero_le _) (ofc_six (b := b) (mg := mg) (w := w) (Z := Z) T.i_Piece (.str (strK_lit (by decide +kernel)))) (objE2 (by decide +kernel) (fi_app [z0, z1] [])) (en.later s23))
        | 4, hx =>
          cases hx
          refine' ask_g1 (EK := EK7 k kb) (k := 13) (N := ["_law_d"]) (fr := []) (ws := []) (some (kOu k.o, [.int (-1)])) ?S4 C off .nil ?hF4 ?hC4 ?hD4 ?hb04 ?body4 ?hk4 ?hb4
          (case hF4 => exact gF4)
          (case hC4 => exact gC4)
          (case hD4 => exact gD4)
          (case hb04 => exact ⟨_, rfl, fun _ => rfl⟩)
          (case S4 => exact nscope_by (by decide +kernel))
          (case body4 => exact fun A outer s H E hr => (StkX.pe_makeRW T.mk_Object G_Object___init__W (hr.mono (by omega)) (by rfl) T.m_Object LendN.passL (pa_cons pe_str pa_nil) (pk_cons pe_str pk_nil)))
          (case hk4 => exact (fun e xs h => by cases h; exact ⟨.tail _ (.tail _ (.tail _ (.tail _ (.head _)))), rfl⟩))
          (case hb4 =>
            intro Gc Qc Ec sc en
            have cp := sc _ _ epJ
            have cP1 := P1J.same sc
            have cP2 := P2J.same sc
            clear sc
            tm_at "go"
            exact i_objE (b := b) (d := .str "a") (xs := []) (os := ([] : List Str).map some) (by tm_at "dt") (by tm_at "shw") .nil (Nat.zero_le _) (.no (flatK.str (strK_lit (by decide +kernel)))) (ob_lot (by decide +kernel) (.inr (Nat.zero_le _)) rfl) en)
        | 5, hx =>
          cases hx
          refine' ask_g1 (EK := EK7 k kb) (k := 13) (N := ["_law_f"]) (fr := []) (ws := []) (none) ?S5 C off .nil ?hF5 ?hC5 ?hD5 ?hb05 ?body5 ?hk5 ?hb5
          (case hF5 => exact gF5)
          (case hC5 => exact gC5)
          (case hD5 => exact gD5)
          (case hb05 => exact ⟨_, rfl, fun _ => rfl⟩)
          (case S5 => exact nscope_by (by decide +kernel))
          (case body5 => exact fun A outer s H E hr => (pe_callB (c_lenO G_Object___len__ (hr.mono (by omega)) T.S_Object___len__ T.b_Object___len__ pass0) (by rfl) T.n_len boot_len (pa_cons (StkX.pe_makeRW T.mk_Object G_Object___init__W (hr.mono (by omega)) (by rfl) T.m_Object LendN.passL (pa_cons pe_str pa_nil) (pk_cons (pe_tup pa_nil) pk_nil)) pa_nil)))
          (case hk5 => exact (fun e xs h => nomatch h))
          (case hb5 =>
            intro Gc Qc Ec sc en
            have cp := sc _ _ epJ
            have cP1 := P1J.same sc
            have cP2 := P2J.same sc
            clear sc
            tm_at "go"
            rename_i u G1 m1 s1 e1
            refine i_obj (b := b) (d := .str "a") (xs := []) (os := ([] : List Str).map some) (lot := some (([] : List Str).map V.str)) (by tm_at "dt") (by tm_at "shw") .nil (Nat.zero_le _) (.seq (ds := []) (.inr (SqT.of e1)) .nil (Nat.zero_le _)) (fun e ys h => by rw [ob_ok (ns := []) (us := []) (by decide +kernel) (.inr ⟨Nat.zero_le _, Nat.zero_le _⟩) List.nodup_nil (fun _ h => nomatch h)] at h; cases h) fun ys _ hy G2 x q1 q2 s2 _ _ _ hx => ?_
            cases hy
            tm_at "go"
            refine lenOb hx (Nat.zero_le _) ?_
            tm_at "go"
            exact en _ _ (s1.trans s2))
        | 6, hx =>
          cases hx
          refine' ask_g1 (EK := EK7 k kb) (k := 13) (N := ["_law_g"]) (fr := []) (ws := []) (some (kPc k.p, [.int 0])) ?S6 C off .nil ?hF6 ?hC6 ?hD6 ?hb06 ?body6 ?hk6 ?hb6
          (case hF6 => exact gF6)
          (case hC6 => exact gC6)
          (case hD6 => exact gD6)
          (case hb06 => exact ⟨_, rfl, fun _ => rfl⟩)
          (case S6 => exact nscope_by (by decide +kernel))
          (case body6 => exact fun A outer s H E hr => (StkX.pe_makeRW T.mk_Object G_Object___init__W (hr.mono (by omega)) (by rfl) T.m_Object LendN.passL (pa_cons pe_str (pa_cons pe_int (pa_cons pe_non pa_nil))) (pk_cons pe_non pk_nil)))
          (case hk6 => exact (fun e xs h => by cases h; exact ⟨.tail _ (.head _), rfl⟩))
          (case hb6 =>
            intro Gc Qc Ec sc en
            have cp := sc _ _ epJ
            have cP1 := P1J.same sc
            have cP2 := P2J.same sc
            clear sc
            tm_at "go"
            exact i_objE (b := b) (d := .str "a") (xs := [.int 3, .non]) (os := [none, none]) (by tm_at "dt") (by tm_at "shw") (.cons (ofc_six (b := b) (mg := mg) (w := w) (Z := Z) T.i_Piece (.int 3)) (.cons (ofc_six (b := b) (mg := mg) (w := w) (Z := Z) T.i_Piece .non) .nil)) (Nat.le_of_ble_eq_true rfl) (.no flatK.non) (objE2 (by decide +kernel) rfl) en)
        | n + 7, hx => cases hx
      · intro G tr tss sG nt' etr hpp
        clear gF0 gC0 gD0 gF1 gC1 gD1 gF2 gC2 gD2 gF3 gC3 gD3 gF4 gC4 gD4 gF5 gC5 gD5 gF6 gC6 gD6 eak
        have BG : Bag G b l := BJ.same sG
        have ntb : tr ≠ b := BJ.ne nt'
        have xA : Dt K G b (.ref tr) (.list [.tuple [.str "InvalidOutside", .tuple [.int 1]], .tuple [.str "InvalidOutside", .tuple [.int 1]], .tuple [.str "InvalidOutside", .tuple [.int 0]], .tuple [.str "InvalidPiece", .tuple [.int 2]], .tuple [.str "InvalidOutside", .tuple [.int (-1)]], .tuple [.str "", .none], .tuple [.str "InvalidPiece", .tuple [.int 0]]]) := by
          refine .lst (SqL.of etr) ntb (by rw [List.length_map, Paired.length hpp]; exact Nat.le_of_ble_eq_true rfl) (paired_dt BG hpp ?_)
          have er1 : ∀ {c : Str} {v : V} {d : PyData}, StrK c → Dt K G b v d → WhyD K G b (some (c, [v])) (.tuple [.str c, .tuple [d]]) := fun hc h => .er hc (Nat.le_of_ble_eq_true rfl) (.cons h .nil)
          exact (.cons (er1 (strK_lit (by decide +kernel)) (.int _)) (.cons (er1 (strK_lit (by decide +kernel)) (.int _)) (.cons (er1 (strK_lit (by decide +kernel)) (.int _)) (.cons (er1 (strK_lit (by decide +kernel)) (.int _)) (.cons (er1 (strK_lit (by decide +kernel)) (.int _)) (.cons .ok (.cons (er1 (strK_lit (by decide +kernel)) (.int _)) .nil)))))))
        have TG : Tabs TT G := tabS sG TJ
        have epG := sG _ _ epJ
        have qG := sG _ _ q11
        replace d2 := d2.same sG
        replace d4 := d4.same sG
        replace d6 := d6.same sG
        replace d8 := d8.same sG
        replace d10 := d10.same sG
        clear TJ BJ epJ P1J P2J sG hpp etr q11
        tm_at "go"
        rename_i u1 G1 m1 s1 e1 _ _ u2 G2 m2 s2 e2 _ _ u3 G3 m3 s3 e3 _ _ u4 G4 m4 s4 e4 _ _ u5 G5 m5 s5 e5 _ _ G6 s6
        have SF : Same G G6 := ((((s1.trans s2).trans s3).trans s4).trans s5).trans s6
        exact ⟨b, l, pl, [z0, z1, z2, z3, z4, z5, z6, z7, z8, z9, z10, z11, z12, z13, z14, z15, z16], rfl, BG.same SF, tabS SF TG, SF _ _ epG, npb, NS, k'⟩
end

open Lend LamX NdefX SupX
/-! ### what the top has written, the head -/
abbrev bmOf {B newId initId : String} {bm : List Value} (_ : ExcBaseFacts B newId initId bm) : List Value := bm
theorem all_mkE {l : PySem.W.OpenLaw} {w : World} {K : PySem.W.Frag} {h : Heap} {mg : Str → Option Value} {fa : Addr} (PS : SupX.ProgS l.prog FL) (X : K.In h) (G : h.Ns mainGlobals mg) (hfa : mg "law" = some (.ref fa))
    {fi_TooMany cl_TooMany cda_TooMany : Addr} {oc_TooMany kV_TooMany dc_TooMany pm_TooMany ct_TooMany ccl_TooMany ccv_TooMany : Value} {od_TooMany an_TooMany cdd_TooMany cld_TooMany : Option Addr} {os_TooMany ccs_TooMany csl_TooMany : Array (Option Value)} {vsC_TooMany : Array Value} {tf_TooMany : Tok} {cd_TooMany : ClassData} {nm_TooMany q_TooMany : Str} {N_TooMany : Addr} {bs_TooMany bm_TooMany : List Value} {sn_TooMany : List Str} {sub_TooMany : List Value} {ab_TooMany : Bool} {col_TooMany : Option Bool} {dd_TooMany : Option Addr} {k0_TooMany k1_TooMany k2_TooMany k3_TooMany k5_TooMany : Option Value}
    {fi_DuplicateName cl_DuplicateName cda_DuplicateName : Addr} {oc_DuplicateName kV_DuplicateName dc_DuplicateName pm_DuplicateName ct_DuplicateName ccl_DuplicateName ccv_DuplicateName : Value} {od_DuplicateName an_DuplicateName cdd_DuplicateName cld_DuplicateName : Option Addr} {os_DuplicateName ccs_DuplicateName csl_DuplicateName : Array (Option Value)} {vsC_DuplicateName : Array Value} {tf_DuplicateName : Tok} {cd_DuplicateName : ClassData} {nm_DuplicateName q_DuplicateName : Str} {N_DuplicateName : Addr} {bs_DuplicateName bm_DuplicateName : List Value} {sn_DuplicateName : List Str} {sub_DuplicateName : List Value} {ab_DuplicateName : Bool} {col_DuplicateName : Option Bool} {dd_DuplicateName : Option Addr} {k0_DuplicateName k1_DuplicateName k2_DuplicateName k3_DuplicateName k5_DuplicateName : Option Value}
    {fi_InvalidMember cl_InvalidMember cda_InvalidMember : Addr} {oc_InvalidMember kV_InvalidMember dc_InvalidMember pm_InvalidMember ct_InvalidMember ccl_InvalidMember ccv_InvalidMember : Value} {od_InvalidMember an_InvalidMember cdd_InvalidMember cld_InvalidMember : Option Addr} {os_InvalidMember ccs_InvalidMember csl_InvalidMember : Array (Option Value)} {vsC_InvalidMember : Array Value} {tf_InvalidMember : Tok} {cd_InvalidMember : ClassData} {nm_InvalidMember q_InvalidMember : Str} {N_InvalidMember : Addr} {bs_InvalidMember bm_InvalidMember : List Value} {sn_InvalidMember : List Str} {sub_InvalidMember : List Value} {ab_InvalidMember : Bool} {col_InvalidMember : Option Bool} {dd_InvalidMember : Option Addr} {k0_InvalidMember k1_InvalidMember k2_InvalidMember k3_InvalidMember k5_InvalidMember : Option Value}
    {fi_InvalidOutside cl_InvalidOutside cda_InvalidOutside : Addr} {oc_InvalidOutside kV_InvalidOutside dc_InvalidOutside pm_InvalidOutside ct_InvalidOutside ccl_InvalidOutside ccv_InvalidOutside : Value} {od_InvalidOutside an_InvalidOutside cdd_InvalidOutside cld_InvalidOutside : Option Addr} {os_InvalidOutside ccs_InvalidOutside csl_InvalidOutside : Array (Option Value)} {vsC_InvalidOutside : Array Value} {tf_InvalidOutside : Tok} {cd_InvalidOutside : ClassData} {nm_InvalidOutside q_InvalidOutside : Str} {N_InvalidOutside : Addr} {bs_InvalidOutside bm_InvalidOutside : List Value} {sn_InvalidOutside : List Str} {sub_InvalidOutside : List Value} {ab_InvalidOutside : Bool} {col_InvalidOutside : Option Bool} {dd_InvalidOutside : Option Addr} {k0_InvalidOutside k1_InvalidOutside k2_InvalidOutside k3_InvalidOutside k5_InvalidOutside : Option Value}
    {fi_InvalidPiece cl_InvalidPiece cda_InvalidPiece : Addr} {oc_InvalidPiece kV_InvalidPiece dc_InvalidPiece pm_InvalidPiece ct_InvalidPiece ccl_InvalidPiece ccv_InvalidPiece : Value} {od_InvalidPiece an_InvalidPiece cdd_InvalidPiece cld_InvalidPiece : Option Addr} {os_InvalidPiece ccs_InvalidPiece csl_InvalidPiece : Array (Option Value)} {vsC_InvalidPiece : Array Value} {tf_InvalidPiece : Tok} {cd_InvalidPiece : ClassData} {nm_InvalidPiece q_InvalidPiece : Str} {N_InvalidPiece : Addr} {bs_InvalidPiece bm_InvalidPiece : List Value} {sn_InvalidPiece : List Str} {sub_InvalidPiece : List Value} {ab_InvalidPiece : Bool} {col_InvalidPiece : Option Bool} {dd_InvalidPiece : Option Addr} {k0_InvalidPiece k1_InvalidPiece k2_InvalidPiece k3_InvalidPiece k5_InvalidPiece : Option Value}
    {fi_NotClosing cl_NotClosing cda_NotClosing : Addr} {oc_NotClosing kV_NotClosing dc_NotClosing pm_NotClosing ct_NotClosing ccl_NotClosing ccv_NotClosing : Value} {od_NotClosing an_NotClosing cdd_NotClosing cld_NotClosing : Option Addr} {os_NotClosing ccs_NotClosing csl_NotClosing : Array (Option Value)} {vsC_NotClosing : Array Value} {tf_NotClosing : Tok} {cd_NotClosing : ClassData} {nm_NotClosing q_NotClosing : Str} {N_NotClosing : Addr} {bs_NotClosing bm_NotClosing : List Value} {sn_NotClosing : List Str} {sub_NotClosing : List Value} {ab_NotClosing : Bool} {col_NotClosing : Option Bool} {dd_NotClosing : Option Addr} {k0_NotClosing k1_NotClosing k2_NotClosing k3_NotClosing k5_NotClosing : Option Value}
    {fi_InvalidRow cl_InvalidRow cda_InvalidRow : Addr} {oc_InvalidRow kV_InvalidRow dc_InvalidRow pm_InvalidRow ct_InvalidRow ccl_InvalidRow ccv_InvalidRow : Value} {od_InvalidRow an_InvalidRow cdd_InvalidRow cld_InvalidRow : Option Addr} {os_InvalidRow ccs_InvalidRow csl_InvalidRow : Array (Option Value)} {vsC_InvalidRow : Array Value} {tf_InvalidRow : Tok} {cd_InvalidRow : ClassData} {nm_InvalidRow q_InvalidRow : Str} {N_InvalidRow : Addr} {bs_InvalidRow bm_InvalidRow : List Value} {sn_InvalidRow : List Str} {sub_InvalidRow : List Value} {ab_InvalidRow : Bool} {col_InvalidRow : Option Bool} {dd_InvalidRow : Option Addr} {k0_InvalidRow k1_InvalidRow k2_InvalidRow k3_InvalidRow k5_InvalidRow : Option Value}
    {fi_InvalidScope cl_InvalidScope cda_InvalidScope : Addr} {oc_InvalidScope kV_InvalidScope dc_InvalidScope pm_InvalidScope ct_InvalidScope ccl_InvalidScope ccv_InvalidScope : Value} {od_InvalidScope an_InvalidScope cdd_InvalidScope cld_InvalidScope : Option Addr} {os_InvalidScope ccs_InvalidScope csl_InvalidScope : Array (Option Value)} {vsC_InvalidScope : Array Value} {tf_InvalidScope : Tok} {cd_InvalidScope : ClassData} {nm_InvalidScope q_InvalidScope : Str} {N_InvalidScope : Addr} {bs_InvalidScope bm_InvalidScope : List Value} {sn_InvalidScope : List Str} {sub_InvalidScope : List Value} {ab_InvalidScope : Bool} {col_InvalidScope : Option Bool} {dd_InvalidScope : Option Addr} {k0_InvalidScope k1_InvalidScope k2_InvalidScope k3_InvalidScope k5_InvalidScope : Option Value}
    {fi_InvalidAlignment cl_InvalidAlignment cda_InvalidAlignment : Addr} {oc_InvalidAlignment kV_InvalidAlignment dc_InvalidAlignment pm_InvalidAlignment ct_InvalidAlignment ccl_InvalidAlignment ccv_InvalidAlignment : Value} {od_InvalidAlignment an_InvalidAlignment cdd_InvalidAlignment cld_InvalidAlignment : Option Addr} {os_InvalidAlignment ccs_InvalidAlignment csl_InvalidAlignment : Array (Option Value)} {vsC_InvalidAlignment : Array Value} {tf_InvalidAlignment : Tok} {cd_InvalidAlignment : ClassData} {nm_InvalidAlignment q_InvalidAlignment : Str} {N_InvalidAlignment : Addr} {bs_InvalidAlignment bm_InvalidAlignment : List Value} {sn_InvalidAlignment : List Str} {sub_InvalidAlignment : List Value} {ab_InvalidAlignment : Bool} {col_InvalidAlignment : Option Bool} {dd_InvalidAlignment : Option Addr} {k0_InvalidAlignment k1_InvalidAlignment k2_InvalidAlignment k3_InvalidAlignment k5_InvalidAlignment : Option Value}
    {fi_InvalidPart cl_InvalidPart cda_InvalidPart : Addr} {oc_InvalidPart kV_InvalidPart dc_InvalidPart pm_InvalidPart ct_InvalidPart ccl_InvalidPart ccv_InvalidPart : Value} {od_InvalidPart an_InvalidPart cdd_InvalidPart cld_InvalidPart : Option Addr} {os_InvalidPart ccs_InvalidPart csl_InvalidPart : Array (Option Value)} {vsC_InvalidPart : Array Value} {tf_InvalidPart : Tok} {cd_InvalidPart : ClassData} {nm_InvalidPart q_InvalidPart : Str} {N_InvalidPart : Addr} {bs_InvalidPart bm_InvalidPart : List Value} {sn_InvalidPart : List Str} {sub_InvalidPart : List Value} {ab_InvalidPart : Bool} {col_InvalidPart : Option Bool} {dd_InvalidPart : Option Addr} {k0_InvalidPart k1_InvalidPart k2_InvalidPart k3_InvalidPart k5_InvalidPart : Option Value}
    {fi_InvalidName cl_InvalidName cda_InvalidName : Addr} {oc_InvalidName kV_InvalidName dc_InvalidName pm_InvalidName ct_InvalidName ccl_InvalidName ccv_InvalidName : Value} {od_InvalidName an_InvalidName cdd_InvalidName cld_InvalidName : Option Addr} {os_InvalidName ccs_InvalidName csl_InvalidName : Array (Option Value)} {vsC_InvalidName : Array Value} {tf_InvalidName : Tok} {cd_InvalidName : ClassData} {nm_InvalidName q_InvalidName : Str} {N_InvalidName : Addr} {bs_InvalidName bm_InvalidName : List Value} {sn_InvalidName : List Str} {sub_InvalidName : List Value} {ab_InvalidName : Bool} {col_InvalidName : Option Bool} {dd_InvalidName : Option Addr} {k0_InvalidName k1_InvalidName k2_InvalidName k3_InvalidName k5_InvalidName : Option Value}
    {cc_law_full_so pp_law_full_so cc_law_wide_so pp_law_wide_so cc_law pp_law : Addr} {tcl_law_full_so : Value} {tcd_law_full_so : Option Addr} {tvs_law_full_so : Array Value} {tcs_law_full_so : Array (Option Value)} {tcl_law_wide_so : Value} {tcd_law_wide_so : Option Addr} {tvs_law_wide_so : Array Value} {tcs_law_wide_so : Array (Option Value)} {tcl_law : Value} {tcd_law : Option Addr} {tvs_law : Array Value} {tcs_law : Array (Option Value)}
    {f_is_name f_is_register f_is_number f_is_code_row f_is_data_row f_is_row_of f_is_closing f_word_of f_fit f_fits f_Piece___init__ f_is_part f_is_alignment f_is_scope_of f_ends_closing f_check_rows f_Object___init__ f_Object_pieces f_Object_outside f_Object_with_piece f_Object___contains__ f_Object___eq__ f_Object___len__ f_Object___repr__ f_Archive___init__ f_Archive___len__ f_wide_object f_check_object f_check_names f_check_outside f_names f_law_bag f_law_draw f_law_of f_law_some f_law_mixed f_law_same f_law_field f_law_try f_law_why f_law_whys f_law_odd f_law_titles f_law_is_title f_law_outside_due f_law_object_due f_law_archive_due f_law_small_piece f_law_full_so f_law_wide_so f_law f_C_Piece f_C_Object f_C_Archive q_REGISTERS q_CODE_ROWS q_DATA_ROWS q_BOUNDS q_CLOSING q_PARTS q_ALIGNMENTS q_SCOPES : Addr}
    {od_is_name an_is_name od_is_register an_is_register od_is_number an_is_number od_is_code_row an_is_code_row od_is_data_row an_is_data_row od_is_row_of an_is_row_of od_is_closing an_is_closing od_word_of an_word_of od_fit an_fit od_fits an_fits od_Piece___init__ an_Piece___init__ od_is_part an_is_part od_is_alignment an_is_alignment od_is_scope_of an_is_scope_of od_ends_closing an_ends_closing od_check_rows an_check_rows od_Object___init__ an_Object___init__ od_Object_pieces an_Object_pieces od_Object_outside an_Object_outside od_Object_with_piece an_Object_with_piece od_Object___contains__ an_Object___contains__ od_Object___eq__ an_Object___eq__ od_Object___len__ an_Object___len__ od_Object___repr__ an_Object___repr__ od_Archive___init__ an_Archive___init__ od_Archive___len__ an_Archive___len__ od_wide_object an_wide_object od_check_object an_check_object od_check_names an_check_names od_check_outside an_check_outside od_names an_names od_law_bag an_law_bag od_law_draw an_law_draw od_law_of an_law_of od_law_some an_law_some od_law_mixed an_law_mixed od_law_same an_law_same od_law_field an_law_field od_law_try an_law_try od_law_why an_law_why od_law_whys an_law_whys od_law_odd an_law_odd od_law_titles an_law_titles od_law_is_title an_law_is_title od_law_outside_due an_law_outside_due od_law_object_due an_law_object_due od_law_archive_due an_law_archive_due od_law_small_piece an_law_small_piece od_law_full_so an_law_full_so od_law_wide_so an_law_wide_so od_law an_law : Option Addr} {sl_is_name sl_is_register sl_is_number sl_is_code_row sl_is_data_row sl_is_row_of sl_is_closing sl_word_of sl_fit sl_fits sl_Piece___init__ sl_is_part sl_is_alignment sl_is_scope_of sl_ends_closing sl_check_rows sl_Object___init__ sl_Object_pieces sl_Object_outside sl_Object_with_piece sl_Object___contains__ sl_Object___eq__ sl_Object___len__ sl_Object___repr__ sl_Archive___init__ sl_Archive___len__ sl_wide_object sl_check_object sl_check_names sl_check_outside sl_names sl_law_bag sl_law_draw sl_law_of sl_law_some sl_law_mixed sl_law_same sl_law_field sl_law_try sl_law_why sl_law_whys sl_law_odd sl_law_titles sl_law_is_title sl_law_outside_due sl_law_object_due sl_law_archive_due sl_law_small_piece sl_law_full_so sl_law_wide_so sl_law : Array (Option Value)} {oc_is_name kV_is_name dc_is_name pm_is_name cd_is_name ct_is_name oc_is_register kV_is_register dc_is_register pm_is_register cd_is_register ct_is_register oc_is_number kV_is_number dc_is_number pm_is_number cd_is_number ct_is_number oc_is_code_row kV_is_code_row dc_is_code_row pm_is_code_row cd_is_code_row ct_is_code_row oc_is_data_row kV_is_data_row dc_is_data_row pm_is_data_row cd_is_data_row ct_is_data_row oc_is_row_of kV_is_row_of dc_is_row_of pm_is_row_of cd_is_row_of ct_is_row_of oc_is_closing kV_is_closing dc_is_closing pm_is_closing cd_is_closing ct_is_closing oc_word_of kV_word_of dc_word_of pm_word_of cd_word_of ct_word_of oc_fit kV_fit dc_fit pm_fit cd_fit ct_fit oc_fits kV_fits dc_fits pm_fits cd_fits ct_fits oc_Piece___init__ dc_Piece___init__ pm_Piece___init__ cd_Piece___init__ ct_Piece___init__ oc_is_part kV_is_part dc_is_part pm_is_part cd_is_part ct_is_part oc_is_alignment kV_is_alignment dc_is_alignment pm_is_alignment cd_is_alignment ct_is_alignment oc_is_scope_of kV_is_scope_of dc_is_scope_of pm_is_scope_of cd_is_scope_of ct_is_scope_of oc_ends_closing kV_ends_closing dc_ends_closing pm_ends_closing cd_ends_closing ct_ends_closing oc_check_rows kV_check_rows dc_check_rows pm_check_rows cd_check_rows ct_check_rows oc_Object___init__ dc_Object___init__ pm_Object___init__ cd_Object___init__ ct_Object___init__ oc_Object_pieces kV_Object_pieces dc_Object_pieces pm_Object_pieces cd_Object_pieces ct_Object_pieces oc_Object_outside kV_Object_outside dc_Object_outside pm_Object_outside cd_Object_outside ct_Object_outside oc_Object_with_piece kV_Object_with_piece dc_Object_with_piece pm_Object_with_piece cd_Object_with_piece ct_Object_with_piece oc_Object___contains__ kV_Object___contains__ dc_Object___contains__ pm_Object___contains__ cd_Object___contains__ ct_Object___contains__ oc_Object___eq__ kV_Object___eq__ dc_Object___eq__ pm_Object___eq__ cd_Object___eq__ ct_Object___eq__ oc_Object___len__ kV_Object___len__ dc_Object___len__ pm_Object___len__ cd_Object___len__ ct_Object___len__ oc_Object___repr__ kV_Object___repr__ dc_Object___repr__ pm_Object___repr__ cd_Object___repr__ ct_Object___repr__ oc_Archive___init__ kV_Archive___init__ dc_Archive___init__ pm_Archive___init__ cd_Archive___init__ ct_Archive___init__ oc_Archive___len__ kV_Archive___len__ dc_Archive___len__ pm_Archive___len__ cd_Archive___len__ ct_Archive___len__ oc_wide_object kV_wide_object dc_wide_object pm_wide_object cd_wide_object ct_wide_object oc_check_object kV_check_object dc_check_object pm_check_object cd_check_object ct_check_object oc_check_names kV_check_names dc_check_names pm_check_names cd_check_names ct_check_names oc_check_outside kV_check_outside dc_check_outside pm_check_outside cd_check_outside ct_check_outside oc_names kV_names dc_names pm_names cd_names ct_names oc_law_bag kV_law_bag dc_law_bag pm_law_bag cd_law_bag ct_law_bag oc_law_draw kV_law_draw dc_law_draw pm_law_draw cd_law_draw ct_law_draw oc_law_of kV_law_of dc_law_of pm_law_of cd_law_of ct_law_of oc_law_some kV_law_some dc_law_some pm_law_some cd_law_some ct_law_some oc_law_mixed kV_law_mixed dc_law_mixed pm_law_mixed cd_law_mixed ct_law_mixed oc_law_same kV_law_same dc_law_same pm_law_same cd_law_same ct_law_same oc_law_field kV_law_field dc_law_field pm_law_field cd_law_field ct_law_field oc_law_try kV_law_try dc_law_try pm_law_try cd_law_try ct_law_try oc_law_why kV_law_why dc_law_why pm_law_why cd_law_why ct_law_why oc_law_whys kV_law_whys dc_law_whys pm_law_whys cd_law_whys ct_law_whys oc_law_odd kV_law_odd dc_law_odd pm_law_odd cd_law_odd ct_law_odd oc_law_titles kV_law_titles dc_law_titles pm_law_titles cd_law_titles ct_law_titles oc_law_is_title kV_law_is_title dc_law_is_title pm_law_is_title cd_law_is_title ct_law_is_title oc_law_outside_due kV_law_outside_due dc_law_outside_due pm_law_outside_due cd_law_outside_due ct_law_outside_due oc_law_object_due kV_law_object_due dc_law_object_due pm_law_object_due cd_law_object_due ct_law_object_due oc_law_archive_due kV_law_archive_due dc_law_archive_due pm_law_archive_due cd_law_archive_due ct_law_archive_due oc_law_small_piece kV_law_small_piece dc_law_small_piece pm_law_small_piece cd_law_small_piece ct_law_small_piece oc_law_full_so kV_law_full_so dc_law_full_so pm_law_full_so ct_law_full_so oc_law_wide_so kV_law_wide_so dc_law_wide_so pm_law_wide_so ct_law_wide_so oc_law kV_law dc_law pm_law ct_law : Value}
    (a_is_name : PySem.W.nsIn K mainGlobals "is_name" = some (some (.ref f_is_name))) (l_is_name : K.lookup f_is_name = some ⟨oc_is_name, od_is_name, .func (PySem.W.fnOf "is_name" "is_name" (defArgs s_is_name) (defBody s_is_name) (defScope s_is_name) .none kV_is_name dc_is_name pm_is_name an_is_name cd_is_name ct_is_name), sl_is_name⟩) (c_is_name : PySem.W.codeIn K cd_is_name "is_name" = true) (k_is_name : PySem.W.keepIn K (.ref f_is_name) = true)
    (a_is_register : PySem.W.nsIn K mainGlobals "is_register" = some (some (.ref f_is_register))) (l_is_register : K.lookup f_is_register = some ⟨oc_is_register, od_is_register, .func (PySem.W.fnOf "is_register" "is_register" (defArgs s_is_register) (defBody s_is_register) (defScope s_is_register) .none kV_is_register dc_is_register pm_is_register an_is_register cd_is_register ct_is_register), sl_is_register⟩) (c_is_register : PySem.W.codeIn K cd_is_register "is_register" = true) (k_is_register : PySem.W.keepIn K (.ref f_is_register) = true)
    (a_is_number : PySem.W.nsIn K mainGlobals "is_number" = some (some (.ref f_is_number))) (l_is_number : K.lookup f_is_number = some ⟨oc_is_number, od_is_number, .func (PySem.W.fnOf "is_number" "is_number" (defArgs s_is_number) (defBody s_is_number) (defScope s_is_number) .none kV_is_number dc_is_number pm_is_number an_is_number cd_is_number ct_is_number), sl_is_number⟩) (c_is_number : PySem.W.codeIn K cd_is_number "is_number" = true) (k_is_number : PySem.W.keepIn K (.ref f_is_number) = true)
    (a_is_code_row : PySem.W.nsIn K mainGlobals "is_code_row" = some (some (.ref f_is_code_row))) (l_is_code_row : K.lookup f_is_code_row = some ⟨oc_is_code_row, od_is_code_row, .func (PySem.W.fnOf "is_code_row" "is_code_row" (defArgs s_is_code_row) (defBody s_is_code_row) (defScope s_is_code_row) .none kV_is_code_row dc_is_code_row pm_is_code_row an_is_code_row cd_is_code_row ct_is_code_row), sl_is_code_row⟩) (c_is_code_row : PySem.W.codeIn K cd_is_code_row "is_code_row" = true) (k_is_code_row : PySem.W.keepIn K (.ref f_is_code_row) = true)
    (a_is_data_row : PySem.W.nsIn K mainGlobals "is_data_row" = some (some (.ref f_is_data_row))) (l_is_data_row : K.lookup f_is_data_row = some ⟨oc_is_data_row, od_is_data_row, .func (PySem.W.fnOf "is_data_row" "is_data_row" (defArgs s_is_data_row) (defBody s_is_data_row) (defScope s_is_data_row) .none kV_is_data_row dc_is_data_row pm_is_data_row an_is_data_row cd_is_data_row ct_is_data_row), sl_is_data_row⟩) (c_is_data_row : PySem.W.codeIn K cd_is_data_row "is_data_row" = true) (k_is_data_row : PySem.W.keepIn K (.ref f_is_data_row) = true)
    (a_is_row_of : PySem.W.nsIn K mainGlobals "is_row_of" = some (some (.ref f_is_row_of))) (l_is_row_of : K.lookup f_is_row_of = some ⟨oc_is_row_of, od_is_row_of, .func (PySem.W.fnOf "is_row_of" "is_row_of" (defArgs s_is_row_of) (defBody s_is_row_of) (defScope s_is_row_of) .none kV_is_row_of dc_is_row_of pm_is_row_of an_is_row_of cd_is_row_of ct_is_row_of), sl_is_row_of⟩) (c_is_row_of : PySem.W.codeIn K cd_is_row_of "is_row_of" = true) (k_is_row_of : PySem.W.keepIn K (.ref f_is_row_of) = true)
    (a_is_closing : PySem.W.nsIn K mainGlobals "is_closing" = some (some (.ref f_is_closing))) (l_is_closing : K.lookup f_is_closing = some ⟨oc_is_closing, od_is_closing, .func (PySem.W.fnOf "is_closing" "is_closing" (defArgs s_is_closing) (defBody s_is_closing) (defScope s_is_closing) .none kV_is_closing dc_is_closing pm_is_closing an_is_closing cd_is_closing ct_is_closing), sl_is_closing⟩) (c_is_closing : PySem.W.codeIn K cd_is_closing "is_closing" = true) (k_is_closing : PySem.W.keepIn K (.ref f_is_closing) = true)
    (a_word_of : PySem.W.nsIn K mainGlobals "_word_of" = some (some (.ref f_word_of))) (l_word_of : K.lookup f_word_of = some ⟨oc_word_of, od_word_of, .func (PySem.W.fnOf "_word_of" "_word_of" (defArgs s_word_of) (defBody s_word_of) (defScope s_word_of) .none kV_word_of dc_word_of pm_word_of an_word_of cd_word_of ct_word_of), sl_word_of⟩) (c_word_of : PySem.W.codeIn K cd_word_of "_word_of" = true) (k_word_of : PySem.W.keepIn K (.ref f_word_of) = true)
    (a_fit : PySem.W.nsIn K mainGlobals "_fit" = some (some (.ref f_fit))) (l_fit : K.lookup f_fit = some ⟨oc_fit, od_fit, .func (PySem.W.fnOf "_fit" "_fit" (defArgs s_fit) (defBody s_fit) (defScope s_fit) .none kV_fit dc_fit pm_fit an_fit cd_fit ct_fit), sl_fit⟩) (c_fit : PySem.W.codeIn K cd_fit "_fit" = true) (k_fit : PySem.W.keepIn K (.ref f_fit) = true)
    (a_fits : PySem.W.nsIn K mainGlobals "_fits" = some (some (.ref f_fits))) (l_fits : K.lookup f_fits = some ⟨oc_fits, od_fits, .func (PySem.W.fnOf "_fits" "_fits" (defArgs s_fits) (defBody s_fits) (defScope s_fits) .none kV_fits dc_fits pm_fits an_fits cd_fits ct_fits), sl_fits⟩) (c_fits : PySem.W.codeIn K cd_fits "_fits" = true) (k_fits : PySem.W.keepIn K (.ref f_fits) = true)
    {kd_Piece___init__ : Addr} {ku_Piece___init___alignment : Tok} {ku_Piece___init___scope : Tok}
    (a_Piece___init__ : PySem.W.findIn K (.ref f_C_Piece) "__init__" = some (some (.ref f_Piece___init__))) (i_Piece___init__ : PySem.W.isFn K (.ref f_Piece___init__) = true) (l_Piece___init__ : K.lookup f_Piece___init__ = some ⟨oc_Piece___init__, od_Piece___init__, .func (PySem.W.fnOf "__init__" "Piece.__init__" (defArgs s_Piece___init__) (defBody s_Piece___init__) (defScope s_Piece___init__) .none (.ref kd_Piece___init__) dc_Piece___init__ pm_Piece___init__ an_Piece___init__ cd_Piece___init__ ct_Piece___init__), sl_Piece___init__⟩) (c_Piece___init__ : PySem.W.codeIn K cd_Piece___init__ "Piece.__init__" = true) (k_Piece___init__ : PySem.W.keepIn K (.ref f_Piece___init__) = true)
    (kw_Piece___init___alignment : PySem.W.nsIn K kd_Piece___init__ "alignment" = some (some (Value.int 1 ku_Piece___init___alignment)))
    (kw_Piece___init___scope : PySem.W.nsIn K kd_Piece___init__ "scope" = some (some (Value.str "local" ku_Piece___init___scope)))
    (kw_Piece___init___keep : PySem.W.nsIn K kd_Piece___init__ "keep" = some (some (Value.bool false)))
    (a_is_part : PySem.W.nsIn K mainGlobals "is_part" = some (some (.ref f_is_part))) (l_is_part : K.lookup f_is_part = some ⟨oc_is_part, od_is_part, .func (PySem.W.fnOf "is_part" "is_part" (defArgs s_is_part) (defBody s_is_part) (defScope s_is_part) .none kV_is_part dc_is_part pm_is_part an_is_part cd_is_part ct_is_part), sl_is_part⟩) (c_is_part : PySem.W.codeIn K cd_is_part "is_part" = true) (k_is_part : PySem.W.keepIn K (.ref f_is_part) = true)
    (a_is_alignment : PySem.W.nsIn K mainGlobals "is_alignment" = some (some (.ref f_is_alignment))) (l_is_alignment : K.lookup f_is_alignment = some ⟨oc_is_alignment, od_is_alignment, .func (PySem.W.fnOf "is_alignment" "is_alignment" (defArgs s_is_alignment) (defBody s_is_alignment) (defScope s_is_alignment) .none kV_is_alignment dc_is_alignment pm_is_alignment an_is_alignment cd_is_alignment ct_is_alignment), sl_is_alignment⟩) (c_is_alignment : PySem.W.codeIn K cd_is_alignment "is_alignment" = true) (k_is_alignment : PySem.W.keepIn K (.ref f_is_alignment) = true)
    (a_is_scope_of : PySem.W.nsIn K mainGlobals "is_scope_of" = some (some (.ref f_is_scope_of))) (l_is_scope_of : K.lookup f_is_scope_of = some ⟨oc_is_scope_of, od_is_scope_of, .func (PySem.W.fnOf "is_scope_of" "is_scope_of" (defArgs s_is_scope_of) (defBody s_is_scope_of) (defScope s_is_scope_of) .none kV_is_scope_of dc_is_scope_of pm_is_scope_of an_is_scope_of cd_is_scope_of ct_is_scope_of), sl_is_scope_of⟩) (c_is_scope_of : PySem.W.codeIn K cd_is_scope_of "is_scope_of" = true) (k_is_scope_of : PySem.W.keepIn K (.ref f_is_scope_of) = true)
    (a_ends_closing : PySem.W.nsIn K mainGlobals "ends_closing" = some (some (.ref f_ends_closing))) (l_ends_closing : K.lookup f_ends_closing = some ⟨oc_ends_closing, od_ends_closing, .func (PySem.W.fnOf "ends_closing" "ends_closing" (defArgs s_ends_closing) (defBody s_ends_closing) (defScope s_ends_closing) .none kV_ends_closing dc_ends_closing pm_ends_closing an_ends_closing cd_ends_closing ct_ends_closing), sl_ends_closing⟩) (c_ends_closing : PySem.W.codeIn K cd_ends_closing "ends_closing" = true) (k_ends_closing : PySem.W.keepIn K (.ref f_ends_closing) = true)
    (a_check_rows : PySem.W.nsIn K mainGlobals "_check_rows" = some (some (.ref f_check_rows))) (l_check_rows : K.lookup f_check_rows = some ⟨oc_check_rows, od_check_rows, .func (PySem.W.fnOf "_check_rows" "_check_rows" (defArgs s_check_rows) (defBody s_check_rows) (defScope s_check_rows) .none kV_check_rows dc_check_rows pm_check_rows an_check_rows cd_check_rows ct_check_rows), sl_check_rows⟩) (c_check_rows : PySem.W.codeIn K cd_check_rows "_check_rows" = true) (k_check_rows : PySem.W.keepIn K (.ref f_check_rows) = true)
    {kd_Object___init__ : Addr} 
    {te_Object___init___outside : Addr} {ted_Object___init___outside : Option Addr} {tei_Object___init___outside : Array Value} {ten_Object___init___outside : Nat} {tes_Object___init___outside : Array (Option Value)}
    (a_Object___init__ : PySem.W.findIn K (.ref f_C_Object) "__init__" = some (some (.ref f_Object___init__))) (i_Object___init__ : PySem.W.isFn K (.ref f_Object___init__) = true) (l_Object___init__ : K.lookup f_Object___init__ = some ⟨oc_Object___init__, od_Object___init__, .func (PySem.W.fnOf "__init__" "Object.__init__" (defArgs s_Object___init__) (defBody s_Object___init__) (defScope s_Object___init__) .none (.ref kd_Object___init__) dc_Object___init__ pm_Object___init__ an_Object___init__ cd_Object___init__ ct_Object___init__), sl_Object___init__⟩) (c_Object___init__ : PySem.W.codeIn K cd_Object___init__ "Object.__init__" = true) (k_Object___init__ : PySem.W.keepIn K (.ref f_Object___init__) = true)
    (kw_Object___init___outside : PySem.W.nsIn K kd_Object___init__ "outside" = some (some (Value.ref te_Object___init___outside)))
    (ve_Object___init___outside : K.lookup te_Object___init___outside = some ⟨.type "tuple", ted_Object___init___outside, .seq tei_Object___init___outside ten_Object___init___outside, tes_Object___init___outside⟩) (we_Object___init___outside : Vals [] tei_Object___init___outside.toList)
    (a_Object_pieces : PySem.W.findIn K (.ref f_C_Object) "pieces" = some (some (.ref f_Object_pieces))) (i_Object_pieces : PySem.W.isFn K (.ref f_Object_pieces) = true) (l_Object_pieces : K.lookup f_Object_pieces = some ⟨oc_Object_pieces, od_Object_pieces, .func (PySem.W.fnOf "pieces" "Object.pieces" (defArgs s_Object_pieces) (defBody s_Object_pieces) (defScope s_Object_pieces) .none kV_Object_pieces dc_Object_pieces pm_Object_pieces an_Object_pieces cd_Object_pieces ct_Object_pieces), sl_Object_pieces⟩) (c_Object_pieces : PySem.W.codeIn K cd_Object_pieces "Object.pieces" = true) (k_Object_pieces : PySem.W.keepIn K (.ref f_Object_pieces) = true)
    (a_Object_outside : PySem.W.findIn K (.ref f_C_Object) "outside" = some (some (.ref f_Object_outside))) (i_Object_outside : PySem.W.isFn K (.ref f_Object_outside) = true) (l_Object_outside : K.lookup f_Object_outside = some ⟨oc_Object_outside, od_Object_outside, .func (PySem.W.fnOf "outside" "Object.outside" (defArgs s_Object_outside) (defBody s_Object_outside) (defScope s_Object_outside) .none kV_Object_outside dc_Object_outside pm_Object_outside an_Object_outside cd_Object_outside ct_Object_outside), sl_Object_outside⟩) (c_Object_outside : PySem.W.codeIn K cd_Object_outside "Object.outside" = true) (k_Object_outside : PySem.W.keepIn K (.ref f_Object_outside) = true)
    (a_Object_with_piece : PySem.W.findIn K (.ref f_C_Object) "with_piece" = some (some (.ref f_Object_with_piece))) (i_Object_with_piece : PySem.W.isFn K (.ref f_Object_with_piece) = true) (l_Object_with_piece : K.lookup f_Object_with_piece = some ⟨oc_Object_with_piece, od_Object_with_piece, .func (PySem.W.fnOf "with_piece" "Object.with_piece" (defArgs s_Object_with_piece) (defBody s_Object_with_piece) (defScope s_Object_with_piece) .none kV_Object_with_piece dc_Object_with_piece pm_Object_with_piece an_Object_with_piece cd_Object_with_piece ct_Object_with_piece), sl_Object_with_piece⟩) (c_Object_with_piece : PySem.W.codeIn K cd_Object_with_piece "Object.with_piece" = true) (k_Object_with_piece : PySem.W.keepIn K (.ref f_Object_with_piece) = true)
    (a_Object___contains__ : PySem.W.findIn K (.ref f_C_Object) "__contains__" = some (some (.ref f_Object___contains__))) (i_Object___contains__ : PySem.W.isFn K (.ref f_Object___contains__) = true) (l_Object___contains__ : K.lookup f_Object___contains__ = some ⟨oc_Object___contains__, od_Object___contains__, .func (PySem.W.fnOf "__contains__" "Object.__contains__" (defArgs s_Object___contains__) (defBody s_Object___contains__) (defScope s_Object___contains__) .none kV_Object___contains__ dc_Object___contains__ pm_Object___contains__ an_Object___contains__ cd_Object___contains__ ct_Object___contains__), sl_Object___contains__⟩) (c_Object___contains__ : PySem.W.codeIn K cd_Object___contains__ "Object.__contains__" = true) (k_Object___contains__ : PySem.W.keepIn K (.ref f_Object___contains__) = true)
    (a_Object___eq__ : PySem.W.findIn K (.ref f_C_Object) "__eq__" = some (some (.ref f_Object___eq__))) (i_Object___eq__ : PySem.W.isFn K (.ref f_Object___eq__) = true) (l_Object___eq__ : K.lookup f_Object___eq__ = some ⟨oc_Object___eq__, od_Object___eq__, .func (PySem.W.fnOf "__eq__" "Object.__eq__" (defArgs s_Object___eq__) (defBody s_Object___eq__) (defScope s_Object___eq__) .none kV_Object___eq__ dc_Object___eq__ pm_Object___eq__ an_Object___eq__ cd_Object___eq__ ct_Object___eq__), sl_Object___eq__⟩) (c_Object___eq__ : PySem.W.codeIn K cd_Object___eq__ "Object.__eq__" = true) (k_Object___eq__ : PySem.W.keepIn K (.ref f_Object___eq__) = true)
    (a_Object___len__ : PySem.W.findIn K (.ref f_C_Object) "__len__" = some (some (.ref f_Object___len__))) (i_Object___len__ : PySem.W.isFn K (.ref f_Object___len__) = true) (l_Object___len__ : K.lookup f_Object___len__ = some ⟨oc_Object___len__, od_Object___len__, .func (PySem.W.fnOf "__len__" "Object.__len__" (defArgs s_Object___len__) (defBody s_Object___len__) (defScope s_Object___len__) .none kV_Object___len__ dc_Object___len__ pm_Object___len__ an_Object___len__ cd_Object___len__ ct_Object___len__), sl_Object___len__⟩) (c_Object___len__ : PySem.W.codeIn K cd_Object___len__ "Object.__len__" = true) (k_Object___len__ : PySem.W.keepIn K (.ref f_Object___len__) = true)
    (a_Object___repr__ : PySem.W.findIn K (.ref f_C_Object) "__repr__" = some (some (.ref f_Object___repr__))) (i_Object___repr__ : PySem.W.isFn K (.ref f_Object___repr__) = true) (l_Object___repr__ : K.lookup f_Object___repr__ = some ⟨oc_Object___repr__, od_Object___repr__, .func (PySem.W.fnOf "__repr__" "Object.__repr__" (defArgs s_Object___repr__) (defBody s_Object___repr__) (defScope s_Object___repr__) .none kV_Object___repr__ dc_Object___repr__ pm_Object___repr__ an_Object___repr__ cd_Object___repr__ ct_Object___repr__), sl_Object___repr__⟩) (c_Object___repr__ : PySem.W.codeIn K cd_Object___repr__ "Object.__repr__" = true) (k_Object___repr__ : PySem.W.keepIn K (.ref f_Object___repr__) = true)
    (a_Archive___init__ : PySem.W.findIn K (.ref f_C_Archive) "__init__" = some (some (.ref f_Archive___init__))) (i_Archive___init__ : PySem.W.isFn K (.ref f_Archive___init__) = true) (l_Archive___init__ : K.lookup f_Archive___init__ = some ⟨oc_Archive___init__, od_Archive___init__, .func (PySem.W.fnOf "__init__" "Archive.__init__" (defArgs s_Archive___init__) (defBody s_Archive___init__) (defScope s_Archive___init__) .none kV_Archive___init__ dc_Archive___init__ pm_Archive___init__ an_Archive___init__ cd_Archive___init__ ct_Archive___init__), sl_Archive___init__⟩) (c_Archive___init__ : PySem.W.codeIn K cd_Archive___init__ "Archive.__init__" = true) (k_Archive___init__ : PySem.W.keepIn K (.ref f_Archive___init__) = true)
    (a_Archive___len__ : PySem.W.findIn K (.ref f_C_Archive) "__len__" = some (some (.ref f_Archive___len__))) (i_Archive___len__ : PySem.W.isFn K (.ref f_Archive___len__) = true) (l_Archive___len__ : K.lookup f_Archive___len__ = some ⟨oc_Archive___len__, od_Archive___len__, .func (PySem.W.fnOf "__len__" "Archive.__len__" (defArgs s_Archive___len__) (defBody s_Archive___len__) (defScope s_Archive___len__) .none kV_Archive___len__ dc_Archive___len__ pm_Archive___len__ an_Archive___len__ cd_Archive___len__ ct_Archive___len__), sl_Archive___len__⟩) (c_Archive___len__ : PySem.W.codeIn K cd_Archive___len__ "Archive.__len__" = true) (k_Archive___len__ : PySem.W.keepIn K (.ref f_Archive___len__) = true)
    (a_wide_object : PySem.W.nsIn K mainGlobals "wide_object" = some (some (.ref f_wide_object))) (l_wide_object : K.lookup f_wide_object = some ⟨oc_wide_object, od_wide_object, .func (PySem.W.fnOf "wide_object" "wide_object" (defArgs s_wide_object) (defBody s_wide_object) (defScope s_wide_object) .none kV_wide_object dc_wide_object pm_wide_object an_wide_object cd_wide_object ct_wide_object), sl_wide_object⟩) (c_wide_object : PySem.W.codeIn K cd_wide_object "wide_object" = true) (k_wide_object : PySem.W.keepIn K (.ref f_wide_object) = true)
    (a_check_object : PySem.W.nsIn K mainGlobals "_check_object" = some (some (.ref f_check_object))) (l_check_object : K.lookup f_check_object = some ⟨oc_check_object, od_check_object, .func (PySem.W.fnOf "_check_object" "_check_object" (defArgs s_check_object) (defBody s_check_object) (defScope s_check_object) .none kV_check_object dc_check_object pm_check_object an_check_object cd_check_object ct_check_object), sl_check_object⟩) (c_check_object : PySem.W.codeIn K cd_check_object "_check_object" = true) (k_check_object : PySem.W.keepIn K (.ref f_check_object) = true)
    (a_check_names : PySem.W.nsIn K mainGlobals "check_names" = some (some (.ref f_check_names))) (l_check_names : K.lookup f_check_names = some ⟨oc_check_names, od_check_names, .func (PySem.W.fnOf "check_names" "check_names" (defArgs s_check_names) (defBody s_check_names) (defScope s_check_names) .none kV_check_names dc_check_names pm_check_names an_check_names cd_check_names ct_check_names), sl_check_names⟩) (c_check_names : PySem.W.codeIn K cd_check_names "check_names" = true) (k_check_names : PySem.W.keepIn K (.ref f_check_names) = true)
    (a_check_outside : PySem.W.nsIn K mainGlobals "_check_outside" = some (some (.ref f_check_outside))) (l_check_outside : K.lookup f_check_outside = some ⟨oc_check_outside, od_check_outside, .func (PySem.W.fnOf "_check_outside" "_check_outside" (defArgs s_check_outside) (defBody s_check_outside) (defScope s_check_outside) .none kV_check_outside dc_check_outside pm_check_outside an_check_outside cd_check_outside ct_check_outside), sl_check_outside⟩) (c_check_outside : PySem.W.codeIn K cd_check_outside "_check_outside" = true) (k_check_outside : PySem.W.keepIn K (.ref f_check_outside) = true)
    (a_names : PySem.W.nsIn K mainGlobals "_names" = some (some (.ref f_names))) (l_names : K.lookup f_names = some ⟨oc_names, od_names, .func (PySem.W.fnOf "_names" "_names" (defArgs s_names) (defBody s_names) (defScope s_names) .none kV_names dc_names pm_names an_names cd_names ct_names), sl_names⟩) (c_names : PySem.W.codeIn K cd_names "_names" = true) (k_names : PySem.W.keepIn K (.ref f_names) = true)
    (a_law_bag : PySem.W.nsIn K mainGlobals "_law_bag" = some (some (.ref f_law_bag))) (l_law_bag : K.lookup f_law_bag = some ⟨oc_law_bag, od_law_bag, .func (PySem.W.fnOf "_law_bag" "_law_bag" (defArgs s_law_bag) (defBody s_law_bag) (defScope s_law_bag) .none kV_law_bag dc_law_bag pm_law_bag an_law_bag cd_law_bag ct_law_bag), sl_law_bag⟩) (c_law_bag : PySem.W.codeIn K cd_law_bag "_law_bag" = true) (k_law_bag : PySem.W.keepIn K (.ref f_law_bag) = true)
    (a_law_draw : PySem.W.nsIn K mainGlobals "_law_draw" = some (some (.ref f_law_draw))) (l_law_draw : K.lookup f_law_draw = some ⟨oc_law_draw, od_law_draw, .func (PySem.W.fnOf "_law_draw" "_law_draw" (defArgs s_law_draw) (defBody s_law_draw) (defScope s_law_draw) .none kV_law_draw dc_law_draw pm_law_draw an_law_draw cd_law_draw ct_law_draw), sl_law_draw⟩) (c_law_draw : PySem.W.codeIn K cd_law_draw "_law_draw" = true) (k_law_draw : PySem.W.keepIn K (.ref f_law_draw) = true)
    (a_law_of : PySem.W.nsIn K mainGlobals "_law_of" = some (some (.ref f_law_of))) (l_law_of : K.lookup f_law_of = some ⟨oc_law_of, od_law_of, .func (PySem.W.fnOf "_law_of" "_law_of" (defArgs s_law_of) (defBody s_law_of) (defScope s_law_of) .none kV_law_of dc_law_of pm_law_of an_law_of cd_law_of ct_law_of), sl_law_of⟩) (c_law_of : PySem.W.codeIn K cd_law_of "_law_of" = true) (k_law_of : PySem.W.keepIn K (.ref f_law_of) = true)
    (a_law_some : PySem.W.nsIn K mainGlobals "_law_some" = some (some (.ref f_law_some))) (l_law_some : K.lookup f_law_some = some ⟨oc_law_some, od_law_some, .func (PySem.W.fnOf "_law_some" "_law_some" (defArgs s_law_some) (defBody s_law_some) (defScope s_law_some) .none kV_law_some dc_law_some pm_law_some an_law_some cd_law_some ct_law_some), sl_law_some⟩) (c_law_some : PySem.W.codeIn K cd_law_some "_law_some" = true) (k_law_some : PySem.W.keepIn K (.ref f_law_some) = true)
    (a_law_mixed : PySem.W.nsIn K mainGlobals "_law_mixed" = some (some (.ref f_law_mixed))) (l_law_mixed : K.lookup f_law_mixed = some ⟨oc_law_mixed, od_law_mixed, .func (PySem.W.fnOf "_law_mixed" "_law_mixed" (defArgs s_law_mixed) (defBody s_law_mixed) (defScope s_law_mixed) .none kV_law_mixed dc_law_mixed pm_law_mixed an_law_mixed cd_law_mixed ct_law_mixed), sl_law_mixed⟩) (c_law_mixed : PySem.W.codeIn K cd_law_mixed "_law_mixed" = true) (k_law_mixed : PySem.W.keepIn K (.ref f_law_mixed) = true)
    (a_law_same : PySem.W.nsIn K mainGlobals "_law_same" = some (some (.ref f_law_same))) (l_law_same : K.lookup f_law_same = some ⟨oc_law_same, od_law_same, .func (PySem.W.fnOf "_law_same" "_law_same" (defArgs s_law_same) (defBody s_law_same) (defScope s_law_same) .none kV_law_same dc_law_same pm_law_same an_law_same cd_law_same ct_law_same), sl_law_same⟩) (c_law_same : PySem.W.codeIn K cd_law_same "_law_same" = true) (k_law_same : PySem.W.keepIn K (.ref f_law_same) = true)
    (a_law_field : PySem.W.nsIn K mainGlobals "_law_field" = some (some (.ref f_law_field))) (l_law_field : K.lookup f_law_field = some ⟨oc_law_field, od_law_field, .func (PySem.W.fnOf "_law_field" "_law_field" (defArgs s_law_field) (defBody s_law_field) (defScope s_law_field) .none kV_law_field dc_law_field pm_law_field an_law_field cd_law_field ct_law_field), sl_law_field⟩) (c_law_field : PySem.W.codeIn K cd_law_field "_law_field" = true) (k_law_field : PySem.W.keepIn K (.ref f_law_field) = true)
    (a_law_try : PySem.W.nsIn K mainGlobals "_law_try" = some (some (.ref f_law_try))) (l_law_try : K.lookup f_law_try = some ⟨oc_law_try, od_law_try, .func (PySem.W.fnOf "_law_try" "_law_try" (defArgs s_law_try) (defBody s_law_try) (defScope s_law_try) .none kV_law_try dc_law_try pm_law_try an_law_try cd_law_try ct_law_try), sl_law_try⟩) (c_law_try : PySem.W.codeIn K cd_law_try "_law_try" = true) (k_law_try : PySem.W.keepIn K (.ref f_law_try) = true)
    (a_law_why : PySem.W.nsIn K mainGlobals "_law_why" = some (some (.ref f_law_why))) (l_law_why : K.lookup f_law_why = some ⟨oc_law_why, od_law_why, .func (PySem.W.fnOf "_law_why" "_law_why" (defArgs s_law_why) (defBody s_law_why) (defScope s_law_why) .none kV_law_why dc_law_why pm_law_why an_law_why cd_law_why ct_law_why), sl_law_why⟩) (c_law_why : PySem.W.codeIn K cd_law_why "_law_why" = true) (k_law_why : PySem.W.keepIn K (.ref f_law_why) = true)
    (a_law_whys : PySem.W.nsIn K mainGlobals "_law_whys" = some (some (.ref f_law_whys))) (l_law_whys : K.lookup f_law_whys = some ⟨oc_law_whys, od_law_whys, .func (PySem.W.fnOf "_law_whys" "_law_whys" (defArgs s_law_whys) (defBody s_law_whys) (defScope s_law_whys) .none kV_law_whys dc_law_whys pm_law_whys an_law_whys cd_law_whys ct_law_whys), sl_law_whys⟩) (c_law_whys : PySem.W.codeIn K cd_law_whys "_law_whys" = true) (k_law_whys : PySem.W.keepIn K (.ref f_law_whys) = true)
    (a_law_odd : PySem.W.nsIn K mainGlobals "_law_odd" = some (some (.ref f_law_odd))) (l_law_odd : K.lookup f_law_odd = some ⟨oc_law_odd, od_law_odd, .func (PySem.W.fnOf "_law_odd" "_law_odd" (defArgs s_law_odd) (defBody s_law_odd) (defScope s_law_odd) .none kV_law_odd dc_law_odd pm_law_odd an_law_odd cd_law_odd ct_law_odd), sl_law_odd⟩) (c_law_odd : PySem.W.codeIn K cd_law_odd "_law_odd" = true) (k_law_odd : PySem.W.keepIn K (.ref f_law_odd) = true)
    (a_law_titles : PySem.W.nsIn K mainGlobals "_law_titles" = some (some (.ref f_law_titles))) (l_law_titles : K.lookup f_law_titles = some ⟨oc_law_titles, od_law_titles, .func (PySem.W.fnOf "_law_titles" "_law_titles" (defArgs s_law_titles) (defBody s_law_titles) (defScope s_law_titles) .none kV_law_titles dc_law_titles pm_law_titles an_law_titles cd_law_titles ct_law_titles), sl_law_titles⟩) (c_law_titles : PySem.W.codeIn K cd_law_titles "_law_titles" = true) (k_law_titles : PySem.W.keepIn K (.ref f_law_titles) = true)
    (a_law_is_title : PySem.W.nsIn K mainGlobals "_law_is_title" = some (some (.ref f_law_is_title))) (l_law_is_title : K.lookup f_law_is_title = some ⟨oc_law_is_title, od_law_is_title, .func (PySem.W.fnOf "_law_is_title" "_law_is_title" (defArgs s_law_is_title) (defBody s_law_is_title) (defScope s_law_is_title) .none kV_law_is_title dc_law_is_title pm_law_is_title an_law_is_title cd_law_is_title ct_law_is_title), sl_law_is_title⟩) (c_law_is_title : PySem.W.codeIn K cd_law_is_title "_law_is_title" = true) (k_law_is_title : PySem.W.keepIn K (.ref f_law_is_title) = true)
    (a_law_outside_due : PySem.W.nsIn K mainGlobals "_law_outside_due" = some (some (.ref f_law_outside_due))) (l_law_outside_due : K.lookup f_law_outside_due = some ⟨oc_law_outside_due, od_law_outside_due, .func (PySem.W.fnOf "_law_outside_due" "_law_outside_due" (defArgs s_law_outside_due) (defBody s_law_outside_due) (defScope s_law_outside_due) .none kV_law_outside_due dc_law_outside_due pm_law_outside_due an_law_outside_due cd_law_outside_due ct_law_outside_due), sl_law_outside_due⟩) (c_law_outside_due : PySem.W.codeIn K cd_law_outside_due "_law_outside_due" = true) (k_law_outside_due : PySem.W.keepIn K (.ref f_law_outside_due) = true)
    (a_law_object_due : PySem.W.nsIn K mainGlobals "_law_object_due" = some (some (.ref f_law_object_due))) (l_law_object_due : K.lookup f_law_object_due = some ⟨oc_law_object_due, od_law_object_due, .func (PySem.W.fnOf "_law_object_due" "_law_object_due" (defArgs s_law_object_due) (defBody s_law_object_due) (defScope s_law_object_due) .none kV_law_object_due dc_law_object_due pm_law_object_due an_law_object_due cd_law_object_due ct_law_object_due), sl_law_object_due⟩) (c_law_object_due : PySem.W.codeIn K cd_law_object_due "_law_object_due" = true) (k_law_object_due : PySem.W.keepIn K (.ref f_law_object_due) = true)
    (a_law_archive_due : PySem.W.nsIn K mainGlobals "_law_archive_due" = some (some (.ref f_law_archive_due))) (l_law_archive_due : K.lookup f_law_archive_due = some ⟨oc_law_archive_due, od_law_archive_due, .func (PySem.W.fnOf "_law_archive_due" "_law_archive_due" (defArgs s_law_archive_due) (defBody s_law_archive_due) (defScope s_law_archive_due) .none kV_law_archive_due dc_law_archive_due pm_law_archive_due an_law_archive_due cd_law_archive_due ct_law_archive_due), sl_law_archive_due⟩) (c_law_archive_due : PySem.W.codeIn K cd_law_archive_due "_law_archive_due" = true) (k_law_archive_due : PySem.W.keepIn K (.ref f_law_archive_due) = true)
    (a_law_small_piece : PySem.W.nsIn K mainGlobals "_law_small_piece" = some (some (.ref f_law_small_piece))) (l_law_small_piece : K.lookup f_law_small_piece = some ⟨oc_law_small_piece, od_law_small_piece, .func (PySem.W.fnOf "_law_small_piece" "_law_small_piece" (defArgs s_law_small_piece) (defBody s_law_small_piece) (defScope s_law_small_piece) .none kV_law_small_piece dc_law_small_piece pm_law_small_piece an_law_small_piece cd_law_small_piece ct_law_small_piece), sl_law_small_piece⟩) (c_law_small_piece : PySem.W.codeIn K cd_law_small_piece "_law_small_piece" = true) (k_law_small_piece : PySem.W.keepIn K (.ref f_law_small_piece) = true)
    (a_law_full_so : PySem.W.nsIn K mainGlobals "_law_full_so" = some (some (.ref f_law_full_so))) (l_law_full_so : K.lookup f_law_full_so = some ⟨oc_law_full_so, od_law_full_so, .func (PySem.W.fnOf "_law_full_so" "_law_full_so" (defArgs s_law_full_so) (defBody s_law_full_so) (defScope s_law_full_so) .none kV_law_full_so dc_law_full_so pm_law_full_so an_law_full_so (.ref cc_law_full_so) ct_law_full_so), sl_law_full_so⟩) (c_law_full_so : PySem.W.codeIn K (.ref cc_law_full_so) "_law_full_so" = true) (k_law_full_so : PySem.W.keepIn K (.ref f_law_full_so) = true)
    (a_law_wide_so : PySem.W.nsIn K mainGlobals "_law_wide_so" = some (some (.ref f_law_wide_so))) (l_law_wide_so : K.lookup f_law_wide_so = some ⟨oc_law_wide_so, od_law_wide_so, .func (PySem.W.fnOf "_law_wide_so" "_law_wide_so" (defArgs s_law_wide_so) (defBody s_law_wide_so) (defScope s_law_wide_so) .none kV_law_wide_so dc_law_wide_so pm_law_wide_so an_law_wide_so (.ref cc_law_wide_so) ct_law_wide_so), sl_law_wide_so⟩) (c_law_wide_so : PySem.W.codeIn K (.ref cc_law_wide_so) "_law_wide_so" = true) (k_law_wide_so : PySem.W.keepIn K (.ref f_law_wide_so) = true)
    (a_law : PySem.W.nsIn K mainGlobals "law" = some (some (.ref f_law))) (l_law : K.lookup f_law = some ⟨oc_law, od_law, .func (PySem.W.fnOf "law" "law" (defArgs s_law) (defBody s_law) (defScope s_law) .none kV_law dc_law pm_law an_law (.ref cc_law) ct_law), sl_law⟩) (c_law : PySem.W.codeIn K (.ref cc_law) "law" = true) (k_law : PySem.W.keepIn K (.ref f_law) = true)
    (aC_Piece : PySem.W.nsIn K mainGlobals "Piece" = some (some (.ref f_C_Piece))) (pg_Piece : PySem.W.plainGet K f_C_Piece Str.empty = true) (hd_Piece : PySem.W.hasDictIn K f_C_Piece = true) (po_Piece : PySem.W.plainOver K f_C_Piece = true) (sa_Piece : PySem.W.findIn K (.ref f_C_Piece) "__setattr__" = some (some (.builtin "object.__setattr__"))) (mkk_Piece : PySem.W.makesIn K f_C_Piece = true) (kc_Piece : PySem.W.keepIn K (.ref f_C_Piece) = true)
    (nf_Piece_name : PySem.W.findIn K (.ref f_C_Piece) "name" = some none)
    (nf_Piece_part : PySem.W.findIn K (.ref f_C_Piece) "part" = some none)
    (nf_Piece_alignment : PySem.W.findIn K (.ref f_C_Piece) "alignment" = some none)
    (nf_Piece_scope : PySem.W.findIn K (.ref f_C_Piece) "scope" = some none)
    (nf_Piece_keep : PySem.W.findIn K (.ref f_C_Piece) "keep" = some none)
    (nf_Piece__rows : PySem.W.findIn K (.ref f_C_Piece) "_rows" = some none)
    (ha_Piece : PySem.W.findIn K (.ref f_C_Piece) "__class__" = some (some (.builtin "object.__class__"))) (hn_Piece : PySem.W.specialIn K (.builtin "object.__class__") "__get__" = some (some (.builtin "getset_descriptor.__get__"))) (htk_Piece : PySem.W.takesIn K (.builtin "object.__class__") = some true) (hm_Piece : PySem.W.mroIn K f_C_Piece (.type "object") = some true) (me_Piece : PySem.W.kitOne K (.ref f_C_Piece) (.ref f_C_Piece) = some true) (ne_Piece : PySem.W.findIn K (.ref f_C_Piece) "__ne__" = some (some (.builtin "object.__ne__")))
    (it_Piece_NoneType : PySem.W.kitOne K (.type "NoneType") (.ref f_C_Piece) = some false)
    (it_Piece_bool : PySem.W.kitOne K (.type "bool") (.ref f_C_Piece) = some false)
    (it_Piece_int : PySem.W.kitOne K (.type "int") (.ref f_C_Piece) = some false)
    (it_Piece_str : PySem.W.kitOne K (.type "str") (.ref f_C_Piece) = some false)
    (it_Piece_list : PySem.W.kitOne K (.type "list") (.ref f_C_Piece) = some false)
    (it_Piece_tuple : PySem.W.kitOne K (.type "tuple") (.ref f_C_Piece) = some false)
    (aC_Object : PySem.W.nsIn K mainGlobals "Object" = some (some (.ref f_C_Object))) (pg_Object : PySem.W.plainGet K f_C_Object Str.empty = true) (hd_Object : PySem.W.hasDictIn K f_C_Object = true) (po_Object : PySem.W.plainOver K f_C_Object = true) (sa_Object : PySem.W.findIn K (.ref f_C_Object) "__setattr__" = some (some (.builtin "object.__setattr__"))) (mkk_Object : PySem.W.makesIn K f_C_Object = true) (kc_Object : PySem.W.keepIn K (.ref f_C_Object) = true)
    (nf_Object_name : PySem.W.findIn K (.ref f_C_Object) "name" = some none)
    (nf_Object__pieces : PySem.W.findIn K (.ref f_C_Object) "_pieces" = some none)
    (nf_Object__foreign : PySem.W.findIn K (.ref f_C_Object) "_foreign" = some none)
    (ha_Object : PySem.W.findIn K (.ref f_C_Object) "__class__" = some (some (.builtin "object.__class__"))) (hn_Object : PySem.W.specialIn K (.builtin "object.__class__") "__get__" = some (some (.builtin "getset_descriptor.__get__"))) (htk_Object : PySem.W.takesIn K (.builtin "object.__class__") = some true) (hm_Object : PySem.W.mroIn K f_C_Object (.type "object") = some true) (me_Object : PySem.W.kitOne K (.ref f_C_Object) (.ref f_C_Object) = some true) (ne_Object : PySem.W.findIn K (.ref f_C_Object) "__ne__" = some (some (.builtin "object.__ne__")))
    (it_Object_NoneType : PySem.W.kitOne K (.type "NoneType") (.ref f_C_Object) = some false)
    (it_Object_bool : PySem.W.kitOne K (.type "bool") (.ref f_C_Object) = some false)
    (it_Object_int : PySem.W.kitOne K (.type "int") (.ref f_C_Object) = some false)
    (it_Object_str : PySem.W.kitOne K (.type "str") (.ref f_C_Object) = some false)
    (it_Object_list : PySem.W.kitOne K (.type "list") (.ref f_C_Object) = some false)
    (it_Object_tuple : PySem.W.kitOne K (.type "tuple") (.ref f_C_Object) = some false)
    (aC_Archive : PySem.W.nsIn K mainGlobals "Archive" = some (some (.ref f_C_Archive))) (pg_Archive : PySem.W.plainGet K f_C_Archive Str.empty = true) (hd_Archive : PySem.W.hasDictIn K f_C_Archive = true) (po_Archive : PySem.W.plainOver K f_C_Archive = true) (sa_Archive : PySem.W.findIn K (.ref f_C_Archive) "__setattr__" = some (some (.builtin "object.__setattr__"))) (mkk_Archive : PySem.W.makesIn K f_C_Archive = true) (kc_Archive : PySem.W.keepIn K (.ref f_C_Archive) = true)
    (nf_Archive_name : PySem.W.findIn K (.ref f_C_Archive) "name" = some none)
    (nf_Archive__members : PySem.W.findIn K (.ref f_C_Archive) "_members" = some none)
    (ha_Archive : PySem.W.findIn K (.ref f_C_Archive) "__class__" = some (some (.builtin "object.__class__"))) (hn_Archive : PySem.W.specialIn K (.builtin "object.__class__") "__get__" = some (some (.builtin "getset_descriptor.__get__"))) (htk_Archive : PySem.W.takesIn K (.builtin "object.__class__") = some true) (hm_Archive : PySem.W.mroIn K f_C_Archive (.type "object") = some true) (me_Archive : PySem.W.kitOne K (.ref f_C_Archive) (.ref f_C_Archive) = some true) (ne_Archive : PySem.W.findIn K (.ref f_C_Archive) "__ne__" = some (some (.builtin "object.__ne__")))
    (it_Archive_NoneType : PySem.W.kitOne K (.type "NoneType") (.ref f_C_Archive) = some false)
    (it_Archive_bool : PySem.W.kitOne K (.type "bool") (.ref f_C_Archive) = some false)
    (it_Archive_int : PySem.W.kitOne K (.type "int") (.ref f_C_Archive) = some false)
    (it_Archive_str : PySem.W.kitOne K (.type "str") (.ref f_C_Archive) = some false)
    (it_Archive_list : PySem.W.kitOne K (.type "list") (.ref f_C_Archive) = some false)
    (it_Archive_tuple : PySem.W.kitOne K (.type "tuple") (.ref f_C_Archive) = some false)
    (ix_Object_Piece : PySem.W.kitOne K (.ref f_C_Object) (.ref f_C_Piece) = some false)
    (ix_Archive_Piece : PySem.W.kitOne K (.ref f_C_Archive) (.ref f_C_Piece) = some false)
    (ix_Piece_Object : PySem.W.kitOne K (.ref f_C_Piece) (.ref f_C_Object) = some false)
    (ix_Archive_Object : PySem.W.kitOne K (.ref f_C_Archive) (.ref f_C_Object) = some false)
    (ix_Piece_Archive : PySem.W.kitOne K (.ref f_C_Piece) (.ref f_C_Archive) = some false)
    (ix_Object_Archive : PySem.W.kitOne K (.ref f_C_Object) (.ref f_C_Archive) = some false)
    (n_abs : PySem.W.nsIn K mainGlobals "abs" = some none)
    (n_all : PySem.W.nsIn K mainGlobals "all" = some none)
    (n_bool : PySem.W.nsIn K mainGlobals "bool" = some none)
    (n_enumerate : PySem.W.nsIn K mainGlobals "enumerate" = some none)
    (n_int : PySem.W.nsIn K mainGlobals "int" = some none)
    (n_isinstance : PySem.W.nsIn K mainGlobals "isinstance" = some none)
    (n_len : PySem.W.nsIn K mainGlobals "len" = some none)
    (n_list : PySem.W.nsIn K mainGlobals "list" = some none)
    (n_range : PySem.W.nsIn K mainGlobals "range" = some none)
    (n_repr : PySem.W.nsIn K mainGlobals "repr" = some none)
    (n_str : PySem.W.nsIn K mainGlobals "str" = some none)
    (n_tuple : PySem.W.nsIn K mainGlobals "tuple" = some none)
    (n_zip : PySem.W.nsIn K mainGlobals "zip" = some none)
    {tk_MOST_LETTERS : Tok} (g_MOST_LETTERS : PySem.W.nsIn K mainGlobals "MOST_LETTERS" = some (some (.int 6 tk_MOST_LETTERS)))
    (g_REGISTERS : PySem.W.nsIn K mainGlobals "REGISTERS" = some (some (.ref q_REGISTERS)))
    {qi_REGISTERS : Array Value} {qn_REGISTERS : Nat} {qs_REGISTERS : Array (Option Value)} (v_REGISTERS : K.lookup q_REGISTERS = some ⟨.type "tuple", none, .seq qi_REGISTERS qn_REGISTERS, qs_REGISTERS⟩) (w_REGISTERS : Vals [.str "r0", .str "r1", .str "r2"] qi_REGISTERS.toList)
    (g_CODE_ROWS : PySem.W.nsIn K mainGlobals "CODE_ROWS" = some (some (.ref q_CODE_ROWS)))
    (g_DATA_ROWS : PySem.W.nsIn K mainGlobals "DATA_ROWS" = some (some (.ref q_DATA_ROWS)))
    (g_BOUNDS : PySem.W.nsIn K mainGlobals "BOUNDS" = some (some (.ref q_BOUNDS)))
    (g_CLOSING : PySem.W.nsIn K mainGlobals "CLOSING" = some (some (.ref q_CLOSING)))
    {qi_CLOSING : Array Value} {qn_CLOSING : Nat} {qs_CLOSING : Array (Option Value)} (v_CLOSING : K.lookup q_CLOSING = some ⟨.type "tuple", none, .seq qi_CLOSING qn_CLOSING, qs_CLOSING⟩) (w_CLOSING : Vals [.str "jump", .str "halt", .str "back"] qi_CLOSING.toList)
    (g_PARTS : PySem.W.nsIn K mainGlobals "PARTS" = some (some (.ref q_PARTS)))
    {qi_PARTS : Array Value} {qn_PARTS : Nat} {qs_PARTS : Array (Option Value)} (v_PARTS : K.lookup q_PARTS = some ⟨.type "tuple", none, .seq qi_PARTS qn_PARTS, qs_PARTS⟩) (w_PARTS : Vals [.str "code", .str "data"] qi_PARTS.toList)
    (g_ALIGNMENTS : PySem.W.nsIn K mainGlobals "ALIGNMENTS" = some (some (.ref q_ALIGNMENTS)))
    {qi_ALIGNMENTS : Array Value} {qn_ALIGNMENTS : Nat} {qs_ALIGNMENTS : Array (Option Value)} (v_ALIGNMENTS : K.lookup q_ALIGNMENTS = some ⟨.type "tuple", none, .seq qi_ALIGNMENTS qn_ALIGNMENTS, qs_ALIGNMENTS⟩) (w_ALIGNMENTS : Vals [.int 1, .int 2, .int 4, .int 8, .int 16] qi_ALIGNMENTS.toList)
    (g_SCOPES : PySem.W.nsIn K mainGlobals "SCOPES" = some (some (.ref q_SCOPES)))
    {qi_SCOPES : Array Value} {qn_SCOPES : Nat} {qs_SCOPES : Array (Option Value)} (v_SCOPES : K.lookup q_SCOPES = some ⟨.type "tuple", none, .seq qi_SCOPES qn_SCOPES, qs_SCOPES⟩) (w_SCOPES : Vals [.str "local", .str "export", .str "open", .str "weak"] qi_SCOPES.toList)
    {tk_MOST_ROWS : Tok} (g_MOST_ROWS : PySem.W.nsIn K mainGlobals "MOST_ROWS" = some (some (.int 16 tk_MOST_ROWS)))
    {tk_MOST_PIECES : Tok} (g_MOST_PIECES : PySem.W.nsIn K mainGlobals "MOST_PIECES" = some (some (.int 8 tk_MOST_PIECES)))
    {tk_MOST_OUTSIDE : Tok} (g_MOST_OUTSIDE : PySem.W.nsIn K mainGlobals "MOST_OUTSIDE" = some (some (.int 8 tk_MOST_OUTSIDE)))
    {tk_MOST_MEMBERS : Tok} (g_MOST_MEMBERS : PySem.W.nsIn K mainGlobals "MOST_MEMBERS" = some (some (.int 4 tk_MOST_MEMBERS)))
    {qe_CODE_ROWS : Array DictEntry} {qz_CODE_ROWS : Nat} (dl_CODE_ROWS : K.lookup q_CODE_ROWS = some ⟨.type "dict", none, .dict qe_CODE_ROWS qz_CODE_ROWS, #[]⟩) (dk_CODE_ROWS : PySem.W.KeysLit w.params qe_CODE_ROWS.toList) (dw_CODE_ROWS : (q_CODE_ROWS == sysModules) = false)
    {t_CODE_ROWS_put : Addr}
    {t_CODE_ROWS_name : Addr}
    {t_CODE_ROWS_add : Addr}
    {t_CODE_ROWS_take : Addr}
    {t_CODE_ROWS_load : Addr}
    {t_CODE_ROWS_store : Addr}
    {t_CODE_ROWS_jump : Addr}
    {t_CODE_ROWS_ifzero : Addr}
    {t_CODE_ROWS_call : Addr}
    {t_CODE_ROWS_callby : Addr}
    {t_CODE_ROWS_back : Addr}
    {t_CODE_ROWS_out : Addr}
    {t_CODE_ROWS_halt : Addr}
    {t_CODE_ROWS_room : Addr}
    (pe_CODE_ROWS : Paired (fun (d : DictEntry) (p : Str × Value) => (∃ t, d.key = .str p.1 t) ∧ d.val = p.2) qe_CODE_ROWS.toList [("put", Value.ref t_CODE_ROWS_put), ("name", Value.ref t_CODE_ROWS_name), ("add", Value.ref t_CODE_ROWS_add), ("take", Value.ref t_CODE_ROWS_take), ("load", Value.ref t_CODE_ROWS_load), ("store", Value.ref t_CODE_ROWS_store), ("jump", Value.ref t_CODE_ROWS_jump), ("ifzero", Value.ref t_CODE_ROWS_ifzero), ("call", Value.ref t_CODE_ROWS_call), ("callby", Value.ref t_CODE_ROWS_callby), ("back", Value.ref t_CODE_ROWS_back), ("out", Value.ref t_CODE_ROWS_out), ("halt", Value.ref t_CODE_ROWS_halt), ("room", Value.ref t_CODE_ROWS_room)])
    {yd_CODE_ROWS_put : Option Addr} {yi_CODE_ROWS_put : Array Value} {yn_CODE_ROWS_put : Nat} {ys_CODE_ROWS_put : Array (Option Value)} (y_CODE_ROWS_put : K.lookup t_CODE_ROWS_put = some ⟨.type "tuple", yd_CODE_ROWS_put, .seq yi_CODE_ROWS_put yn_CODE_ROWS_put, ys_CODE_ROWS_put⟩) (u_CODE_ROWS_put : Vals [.str "R", .str "n"] yi_CODE_ROWS_put.toList)
    {yd_CODE_ROWS_name : Option Addr} {yi_CODE_ROWS_name : Array Value} {yn_CODE_ROWS_name : Nat} {ys_CODE_ROWS_name : Array (Option Value)} (y_CODE_ROWS_name : K.lookup t_CODE_ROWS_name = some ⟨.type "tuple", yd_CODE_ROWS_name, .seq yi_CODE_ROWS_name yn_CODE_ROWS_name, ys_CODE_ROWS_name⟩) (u_CODE_ROWS_name : Vals [.str "R", .str "N"] yi_CODE_ROWS_name.toList)
    {yd_CODE_ROWS_add : Option Addr} {yi_CODE_ROWS_add : Array Value} {yn_CODE_ROWS_add : Nat} {ys_CODE_ROWS_add : Array (Option Value)} (y_CODE_ROWS_add : K.lookup t_CODE_ROWS_add = some ⟨.type "tuple", yd_CODE_ROWS_add, .seq yi_CODE_ROWS_add yn_CODE_ROWS_add, ys_CODE_ROWS_add⟩) (u_CODE_ROWS_add : Vals [.str "R", .str "R"] yi_CODE_ROWS_add.toList)
    {yd_CODE_ROWS_take : Option Addr} {yi_CODE_ROWS_take : Array Value} {yn_CODE_ROWS_take : Nat} {ys_CODE_ROWS_take : Array (Option Value)} (y_CODE_ROWS_take : K.lookup t_CODE_ROWS_take = some ⟨.type "tuple", yd_CODE_ROWS_take, .seq yi_CODE_ROWS_take yn_CODE_ROWS_take, ys_CODE_ROWS_take⟩) (u_CODE_ROWS_take : Vals [.str "R", .str "R"] yi_CODE_ROWS_take.toList)
    {yd_CODE_ROWS_load : Option Addr} {yi_CODE_ROWS_load : Array Value} {yn_CODE_ROWS_load : Nat} {ys_CODE_ROWS_load : Array (Option Value)} (y_CODE_ROWS_load : K.lookup t_CODE_ROWS_load = some ⟨.type "tuple", yd_CODE_ROWS_load, .seq yi_CODE_ROWS_load yn_CODE_ROWS_load, ys_CODE_ROWS_load⟩) (u_CODE_ROWS_load : Vals [.str "R", .str "R", .str "d"] yi_CODE_ROWS_load.toList)
    {yd_CODE_ROWS_store : Option Addr} {yi_CODE_ROWS_store : Array Value} {yn_CODE_ROWS_store : Nat} {ys_CODE_ROWS_store : Array (Option Value)} (y_CODE_ROWS_store : K.lookup t_CODE_ROWS_store = some ⟨.type "tuple", yd_CODE_ROWS_store, .seq yi_CODE_ROWS_store yn_CODE_ROWS_store, ys_CODE_ROWS_store⟩) (u_CODE_ROWS_store : Vals [.str "R", .str "R", .str "d"] yi_CODE_ROWS_store.toList)
    {yd_CODE_ROWS_jump : Option Addr} {yi_CODE_ROWS_jump : Array Value} {yn_CODE_ROWS_jump : Nat} {ys_CODE_ROWS_jump : Array (Option Value)} (y_CODE_ROWS_jump : K.lookup t_CODE_ROWS_jump = some ⟨.type "tuple", yd_CODE_ROWS_jump, .seq yi_CODE_ROWS_jump yn_CODE_ROWS_jump, ys_CODE_ROWS_jump⟩) (u_CODE_ROWS_jump : Vals [.str "N"] yi_CODE_ROWS_jump.toList)
    {yd_CODE_ROWS_ifzero : Option Addr} {yi_CODE_ROWS_ifzero : Array Value} {yn_CODE_ROWS_ifzero : Nat} {ys_CODE_ROWS_ifzero : Array (Option Value)} (y_CODE_ROWS_ifzero : K.lookup t_CODE_ROWS_ifzero = some ⟨.type "tuple", yd_CODE_ROWS_ifzero, .seq yi_CODE_ROWS_ifzero yn_CODE_ROWS_ifzero, ys_CODE_ROWS_ifzero⟩) (u_CODE_ROWS_ifzero : Vals [.str "R", .str "N"] yi_CODE_ROWS_ifzero.toList)
    {yd_CODE_ROWS_call : Option Addr} {yi_CODE_ROWS_call : Array Value} {yn_CODE_ROWS_call : Nat} {ys_CODE_ROWS_call : Array (Option Value)} (y_CODE_ROWS_call : K.lookup t_CODE_ROWS_call = some ⟨.type "tuple", yd_CODE_ROWS_call, .seq yi_CODE_ROWS_call yn_CODE_ROWS_call, ys_CODE_ROWS_call⟩) (u_CODE_ROWS_call : Vals [.str "N"] yi_CODE_ROWS_call.toList)
    {yd_CODE_ROWS_callby : Option Addr} {yi_CODE_ROWS_callby : Array Value} {yn_CODE_ROWS_callby : Nat} {ys_CODE_ROWS_callby : Array (Option Value)} (y_CODE_ROWS_callby : K.lookup t_CODE_ROWS_callby = some ⟨.type "tuple", yd_CODE_ROWS_callby, .seq yi_CODE_ROWS_callby yn_CODE_ROWS_callby, ys_CODE_ROWS_callby⟩) (u_CODE_ROWS_callby : Vals [.str "R"] yi_CODE_ROWS_callby.toList)
    {yd_CODE_ROWS_back : Option Addr} {yi_CODE_ROWS_back : Array Value} {yn_CODE_ROWS_back : Nat} {ys_CODE_ROWS_back : Array (Option Value)} (y_CODE_ROWS_back : K.lookup t_CODE_ROWS_back = some ⟨.type "tuple", yd_CODE_ROWS_back, .seq yi_CODE_ROWS_back yn_CODE_ROWS_back, ys_CODE_ROWS_back⟩) (u_CODE_ROWS_back : Vals [] yi_CODE_ROWS_back.toList)
    {yd_CODE_ROWS_out : Option Addr} {yi_CODE_ROWS_out : Array Value} {yn_CODE_ROWS_out : Nat} {ys_CODE_ROWS_out : Array (Option Value)} (y_CODE_ROWS_out : K.lookup t_CODE_ROWS_out = some ⟨.type "tuple", yd_CODE_ROWS_out, .seq yi_CODE_ROWS_out yn_CODE_ROWS_out, ys_CODE_ROWS_out⟩) (u_CODE_ROWS_out : Vals [.str "R"] yi_CODE_ROWS_out.toList)
    {yd_CODE_ROWS_halt : Option Addr} {yi_CODE_ROWS_halt : Array Value} {yn_CODE_ROWS_halt : Nat} {ys_CODE_ROWS_halt : Array (Option Value)} (y_CODE_ROWS_halt : K.lookup t_CODE_ROWS_halt = some ⟨.type "tuple", yd_CODE_ROWS_halt, .seq yi_CODE_ROWS_halt yn_CODE_ROWS_halt, ys_CODE_ROWS_halt⟩) (u_CODE_ROWS_halt : Vals [] yi_CODE_ROWS_halt.toList)
    {yd_CODE_ROWS_room : Option Addr} {yi_CODE_ROWS_room : Array Value} {yn_CODE_ROWS_room : Nat} {ys_CODE_ROWS_room : Array (Option Value)} (y_CODE_ROWS_room : K.lookup t_CODE_ROWS_room = some ⟨.type "tuple", yd_CODE_ROWS_room, .seq yi_CODE_ROWS_room yn_CODE_ROWS_room, ys_CODE_ROWS_room⟩) (u_CODE_ROWS_room : Vals [.str "k"] yi_CODE_ROWS_room.toList)
    {qe_DATA_ROWS : Array DictEntry} {qz_DATA_ROWS : Nat} (dl_DATA_ROWS : K.lookup q_DATA_ROWS = some ⟨.type "dict", none, .dict qe_DATA_ROWS qz_DATA_ROWS, #[]⟩) (dk_DATA_ROWS : PySem.W.KeysLit w.params qe_DATA_ROWS.toList) (dw_DATA_ROWS : (q_DATA_ROWS == sysModules) = false)
    {t_DATA_ROWS_word : Addr}
    {t_DATA_ROWS_address : Addr}
    {t_DATA_ROWS_room : Addr}
    (pe_DATA_ROWS : Paired (fun (d : DictEntry) (p : Str × Value) => (∃ t, d.key = .str p.1 t) ∧ d.val = p.2) qe_DATA_ROWS.toList [("word", Value.ref t_DATA_ROWS_word), ("address", Value.ref t_DATA_ROWS_address), ("room", Value.ref t_DATA_ROWS_room)])
    {yd_DATA_ROWS_word : Option Addr} {yi_DATA_ROWS_word : Array Value} {yn_DATA_ROWS_word : Nat} {ys_DATA_ROWS_word : Array (Option Value)} (y_DATA_ROWS_word : K.lookup t_DATA_ROWS_word = some ⟨.type "tuple", yd_DATA_ROWS_word, .seq yi_DATA_ROWS_word yn_DATA_ROWS_word, ys_DATA_ROWS_word⟩) (u_DATA_ROWS_word : Vals [.str "n"] yi_DATA_ROWS_word.toList)
    {yd_DATA_ROWS_address : Option Addr} {yi_DATA_ROWS_address : Array Value} {yn_DATA_ROWS_address : Nat} {ys_DATA_ROWS_address : Array (Option Value)} (y_DATA_ROWS_address : K.lookup t_DATA_ROWS_address = some ⟨.type "tuple", yd_DATA_ROWS_address, .seq yi_DATA_ROWS_address yn_DATA_ROWS_address, ys_DATA_ROWS_address⟩) (u_DATA_ROWS_address : Vals [.str "N"] yi_DATA_ROWS_address.toList)
    {yd_DATA_ROWS_room : Option Addr} {yi_DATA_ROWS_room : Array Value} {yn_DATA_ROWS_room : Nat} {ys_DATA_ROWS_room : Array (Option Value)} (y_DATA_ROWS_room : K.lookup t_DATA_ROWS_room = some ⟨.type "tuple", yd_DATA_ROWS_room, .seq yi_DATA_ROWS_room yn_DATA_ROWS_room, ys_DATA_ROWS_room⟩) (u_DATA_ROWS_room : Vals [.str "k"] yi_DATA_ROWS_room.toList)
    {qe_BOUNDS : Array DictEntry} {qz_BOUNDS : Nat} (dl_BOUNDS : K.lookup q_BOUNDS = some ⟨.type "dict", none, .dict qe_BOUNDS qz_BOUNDS, #[]⟩) (dk_BOUNDS : PySem.W.KeysLit w.params qe_BOUNDS.toList) (dw_BOUNDS : (q_BOUNDS == sysModules) = false)
    {t_BOUNDS_n : Addr}
    {t_BOUNDS_d : Addr}
    {t_BOUNDS_k : Addr}
    (pe_BOUNDS : Paired (fun (d : DictEntry) (p : Str × Value) => (∃ t, d.key = .str p.1 t) ∧ d.val = p.2) qe_BOUNDS.toList [("n", Value.ref t_BOUNDS_n), ("d", Value.ref t_BOUNDS_d), ("k", Value.ref t_BOUNDS_k)])
    {yd_BOUNDS_n : Option Addr} {yi_BOUNDS_n : Array Value} {yn_BOUNDS_n : Nat} {ys_BOUNDS_n : Array (Option Value)} (y_BOUNDS_n : K.lookup t_BOUNDS_n = some ⟨.type "tuple", yd_BOUNDS_n, .seq yi_BOUNDS_n yn_BOUNDS_n, ys_BOUNDS_n⟩) (u_BOUNDS_n : Vals [.int 0, .int 65535] yi_BOUNDS_n.toList)
    {yd_BOUNDS_d : Option Addr} {yi_BOUNDS_d : Array Value} {yn_BOUNDS_d : Nat} {ys_BOUNDS_d : Array (Option Value)} (y_BOUNDS_d : K.lookup t_BOUNDS_d = some ⟨.type "tuple", yd_BOUNDS_d, .seq yi_BOUNDS_d yn_BOUNDS_d, ys_BOUNDS_d⟩) (u_BOUNDS_d : Vals [.int 0, .int 15] yi_BOUNDS_d.toList)
    {yd_BOUNDS_k : Option Addr} {yi_BOUNDS_k : Array Value} {yn_BOUNDS_k : Nat} {ys_BOUNDS_k : Array (Option Value)} (y_BOUNDS_k : K.lookup t_BOUNDS_k = some ⟨.type "tuple", yd_BOUNDS_k, .seq yi_BOUNDS_k yn_BOUNDS_k, ys_BOUNDS_k⟩) (u_BOUNDS_k : Vals [.int 1, .int 120] yi_BOUNDS_k.toList)
    (lc_law_full_so : K.lookup cc_law_full_so = some ⟨tcl_law_full_so, tcd_law_full_so, .fields tvs_law_full_so, tcs_law_full_so⟩) (tp_law_full_so : tvs_law_full_so[11]? = some (.ref pp_law_full_so)) (hd_law_full_so : PySem.W.codeHdIn K cc_law_full_so pp_law_full_so = true) (np_law_full_so : K.lookup pp_law_full_so = none) (tt_law_full_so : h.get? pp_law_full_so = some { cls := .none, data := .fields #[] })
    (lc_law_wide_so : K.lookup cc_law_wide_so = some ⟨tcl_law_wide_so, tcd_law_wide_so, .fields tvs_law_wide_so, tcs_law_wide_so⟩) (tp_law_wide_so : tvs_law_wide_so[11]? = some (.ref pp_law_wide_so)) (hd_law_wide_so : PySem.W.codeHdIn K cc_law_wide_so pp_law_wide_so = true) (np_law_wide_so : K.lookup pp_law_wide_so = none) (tt_law_wide_so : h.get? pp_law_wide_so = some { cls := .none, data := .fields #[] })
    (lc_law : K.lookup cc_law = some ⟨tcl_law, tcd_law, .fields tvs_law, tcs_law⟩) (tp_law : tvs_law[11]? = some (.ref pp_law)) (hd_law : PySem.W.codeHdIn K cc_law pp_law = true) (np_law : K.lookup pp_law = none) (tt_law : h.get? pp_law = some { cls := .none, data := .fields #[] })
    (dd_0_1 : pp_law_full_so ≠ pp_law_wide_so)
    (dd_0_2 : pp_law_full_so ≠ pp_law)
    (dd_1_2 : pp_law_wide_so ≠ pp_law)
    {E_ImageError : Addr} (eA_ImageError : PySem.W.nsIn K mainGlobals "ImageError" = some (some (.ref E_ImageError)))
    {E_Missing : Addr} (eA_Missing : PySem.W.nsIn K mainGlobals "Missing" = some (some (.ref E_Missing)))
    {E_InvalidName : Addr} (eA_InvalidName : PySem.W.nsIn K mainGlobals "InvalidName" = some (some (.ref E_InvalidName)))
    {E_InvalidPart : Addr} (eA_InvalidPart : PySem.W.nsIn K mainGlobals "InvalidPart" = some (some (.ref E_InvalidPart)))
    {E_InvalidAlignment : Addr} (eA_InvalidAlignment : PySem.W.nsIn K mainGlobals "InvalidAlignment" = some (some (.ref E_InvalidAlignment)))
    {E_InvalidScope : Addr} (eA_InvalidScope : PySem.W.nsIn K mainGlobals "InvalidScope" = some (some (.ref E_InvalidScope)))
    {E_InvalidRow : Addr} (eA_InvalidRow : PySem.W.nsIn K mainGlobals "InvalidRow" = some (some (.ref E_InvalidRow)))
    {E_NotClosing : Addr} (eA_NotClosing : PySem.W.nsIn K mainGlobals "NotClosing" = some (some (.ref E_NotClosing)))
    {E_InvalidPiece : Addr} (eA_InvalidPiece : PySem.W.nsIn K mainGlobals "InvalidPiece" = some (some (.ref E_InvalidPiece)))
    {E_InvalidOutside : Addr} (eA_InvalidOutside : PySem.W.nsIn K mainGlobals "InvalidOutside" = some (some (.ref E_InvalidOutside)))
    {E_InvalidMember : Addr} (eA_InvalidMember : PySem.W.nsIn K mainGlobals "InvalidMember" = some (some (.ref E_InvalidMember)))
    {E_DuplicateName : Addr} (eA_DuplicateName : PySem.W.nsIn K mainGlobals "DuplicateName" = some (some (.ref E_DuplicateName)))
    {E_TooMany : Addr} (eA_TooMany : PySem.W.nsIn K mainGlobals "TooMany" = some (some (.ref E_TooMany)))
    {E_UnknownName : Addr} (eA_UnknownName : PySem.W.nsIn K mainGlobals "UnknownName" = some (some (.ref E_UnknownName)))
    (nsS : PySem.W.nsIn K mainGlobals "super" = some none) (opq : PySem.W.nsIn K PySem.cStatics "thirdparty.any" = some none)
    (ei_InvalidName : PySem.W.findIn K (.ref E_InvalidName) "__init__" = some (some (.ref fi_InvalidName))) (el_InvalidName : K.lookup fi_InvalidName = some ⟨oc_InvalidName, od_InvalidName, .func (PySem.W.ksFn "__init__" "InvalidName.__init__" (defArgs s_E_InvalidName) (defBody s_E_InvalidName) (defScope s_E_InvalidName) .none kV_InvalidName dc_InvalidName pm_InvalidName an_InvalidName (.ref cda_InvalidName) ct_InvalidName cl_InvalidName), os_InvalidName⟩)
    (eco_InvalidName : PySem.W.codeIn K (.ref cda_InvalidName) "InvalidName.__init__" = true) (elc_InvalidName : K.lookup cda_InvalidName = some ⟨ccl_InvalidName, cdd_InvalidName, .fields vsC_InvalidName, ccs_InvalidName⟩) (ef_InvalidName : vsC_InvalidName[2]? = some (.str FL tf_InvalidName)) (ece_InvalidName : K.lookup cl_InvalidName = some ⟨ccv_InvalidName, cld_InvalidName, .cell (some (.ref E_InvalidName)), csl_InvalidName⟩) (ecl_InvalidName : PySem.W.clsIn K E_InvalidName = some cd_InvalidName)
    (eC_InvalidName : K.lookup E_InvalidName = some (excClassObj nm_InvalidName q_InvalidName E_InvalidName N_InvalidName bs_InvalidName bm_InvalidName true sn_InvalidName sub_InvalidName ab_InvalidName col_InvalidName dd_InvalidName k0_InvalidName k1_InvalidName k2_InvalidName k3_InvalidName k5_InvalidName "ValueError.__new__")) (erf_InvalidName : PySem.HandSPX.refsVE bm_InvalidName = true) (esa_InvalidName : PySem.W.findIn K (.ref E_InvalidName) "__setattr__" = some (some (.builtin "object.__setattr__"))) (eex_InvalidName : PySem.W.subIn K (.ref E_InvalidName) (.type "BaseException") = some true) (ety_InvalidName : PySem.W.typeIn K (.ref E_InvalidName) = some (.type "type")) (ek_InvalidName : PySem.W.keepIn K (.ref E_InvalidName) = true)
    (emr_InvalidName : PySem.W.mroIn K E_InvalidName (.ref E_InvalidName) = some true) (esI_InvalidName : PySem.W.ks_superIn K E_InvalidName E_InvalidName "__init__" = some (some (.builtin "ValueError.__init__"))) (eB_InvalidName : PySem.W.subIn K (.ref E_InvalidName) (.type "ValueError") = some true) (etI_InvalidName : PySem.W.typeIn K (.ref fi_InvalidName) = some (.type "function")) (emd_InvalidName : PySem.W.excInitIn K E_InvalidName (bmOf PySem.F.excBase_ValueError) "ValueError.__new__" = true) (exf_InvalidName : xfB K E_InvalidName = true)
    (en_InvalidName_value : PySem.W.findIn K (.ref E_InvalidName) "value" = some none)
    (en_InvalidName_code : PySem.W.findIn K (.ref E_InvalidName) "code" = some none)
    (ei_InvalidPart : PySem.W.findIn K (.ref E_InvalidPart) "__init__" = some (some (.ref fi_InvalidPart))) (el_InvalidPart : K.lookup fi_InvalidPart = some ⟨oc_InvalidPart, od_InvalidPart, .func (PySem.W.ksFn "__init__" "InvalidPart.__init__" (defArgs s_E_InvalidPart) (defBody s_E_InvalidPart) (defScope s_E_InvalidPart) .none kV_InvalidPart dc_InvalidPart pm_InvalidPart an_InvalidPart (.ref cda_InvalidPart) ct_InvalidPart cl_InvalidPart), os_InvalidPart⟩)
    (eco_InvalidPart : PySem.W.codeIn K (.ref cda_InvalidPart) "InvalidPart.__init__" = true) (elc_InvalidPart : K.lookup cda_InvalidPart = some ⟨ccl_InvalidPart, cdd_InvalidPart, .fields vsC_InvalidPart, ccs_InvalidPart⟩) (ef_InvalidPart : vsC_InvalidPart[2]? = some (.str FL tf_InvalidPart)) (ece_InvalidPart : K.lookup cl_InvalidPart = some ⟨ccv_InvalidPart, cld_InvalidPart, .cell (some (.ref E_InvalidPart)), csl_InvalidPart⟩) (ecl_InvalidPart : PySem.W.clsIn K E_InvalidPart = some cd_InvalidPart)
    (eC_InvalidPart : K.lookup E_InvalidPart = some (excClassObj nm_InvalidPart q_InvalidPart E_InvalidPart N_InvalidPart bs_InvalidPart bm_InvalidPart true sn_InvalidPart sub_InvalidPart ab_InvalidPart col_InvalidPart dd_InvalidPart k0_InvalidPart k1_InvalidPart k2_InvalidPart k3_InvalidPart k5_InvalidPart "ValueError.__new__")) (erf_InvalidPart : PySem.HandSPX.refsVE bm_InvalidPart = true) (esa_InvalidPart : PySem.W.findIn K (.ref E_InvalidPart) "__setattr__" = some (some (.builtin "object.__setattr__"))) (eex_InvalidPart : PySem.W.subIn K (.ref E_InvalidPart) (.type "BaseException") = some true) (ety_InvalidPart : PySem.W.typeIn K (.ref E_InvalidPart) = some (.type "type")) (ek_InvalidPart : PySem.W.keepIn K (.ref E_InvalidPart) = true)
    (emr_InvalidPart : PySem.W.mroIn K E_InvalidPart (.ref E_InvalidPart) = some true) (esI_InvalidPart : PySem.W.ks_superIn K E_InvalidPart E_InvalidPart "__init__" = some (some (.builtin "ValueError.__init__"))) (eB_InvalidPart : PySem.W.subIn K (.ref E_InvalidPart) (.type "ValueError") = some true) (etI_InvalidPart : PySem.W.typeIn K (.ref fi_InvalidPart) = some (.type "function")) (emd_InvalidPart : PySem.W.excInitIn K E_InvalidPart (bmOf PySem.F.excBase_ValueError) "ValueError.__new__" = true) (exf_InvalidPart : xfB K E_InvalidPart = true)
    (en_InvalidPart_value : PySem.W.findIn K (.ref E_InvalidPart) "value" = some none)
    (en_InvalidPart_code : PySem.W.findIn K (.ref E_InvalidPart) "code" = some none)
    (ei_InvalidAlignment : PySem.W.findIn K (.ref E_InvalidAlignment) "__init__" = some (some (.ref fi_InvalidAlignment))) (el_InvalidAlignment : K.lookup fi_InvalidAlignment = some ⟨oc_InvalidAlignment, od_InvalidAlignment, .func (PySem.W.ksFn "__init__" "InvalidAlignment.__init__" (defArgs s_E_InvalidAlignment) (defBody s_E_InvalidAlignment) (defScope s_E_InvalidAlignment) .none kV_InvalidAlignment dc_InvalidAlignment pm_InvalidAlignment an_InvalidAlignment (.ref cda_InvalidAlignment) ct_InvalidAlignment cl_InvalidAlignment), os_InvalidAlignment⟩)
    (eco_InvalidAlignment : PySem.W.codeIn K (.ref cda_InvalidAlignment) "InvalidAlignment.__init__" = true) (elc_InvalidAlignment : K.lookup cda_InvalidAlignment = some ⟨ccl_InvalidAlignment, cdd_InvalidAlignment, .fields vsC_InvalidAlignment, ccs_InvalidAlignment⟩) (ef_InvalidAlignment : vsC_InvalidAlignment[2]? = some (.str FL tf_InvalidAlignment)) (ece_InvalidAlignment : K.lookup cl_InvalidAlignment = some ⟨ccv_InvalidAlignment, cld_InvalidAlignment, .cell (some (.ref E_InvalidAlignment)), csl_InvalidAlignment⟩) (ecl_InvalidAlignment : PySem.W.clsIn K E_InvalidAlignment = some cd_InvalidAlignment)
    (eC_InvalidAlignment : K.lookup E_InvalidAlignment = some (excClassObj nm_InvalidAlignment q_InvalidAlignment E_InvalidAlignment N_InvalidAlignment bs_InvalidAlignment bm_InvalidAlignment true sn_InvalidAlignment sub_InvalidAlignment ab_InvalidAlignment col_InvalidAlignment dd_InvalidAlignment k0_InvalidAlignment k1_InvalidAlignment k2_InvalidAlignment k3_InvalidAlignment k5_InvalidAlignment "ValueError.__new__")) (erf_InvalidAlignment : PySem.HandSPX.refsVE bm_InvalidAlignment = true) (esa_InvalidAlignment : PySem.W.findIn K (.ref E_InvalidAlignment) "__setattr__" = some (some (.builtin "object.__setattr__"))) (eex_InvalidAlignment : PySem.W.subIn K (.ref E_InvalidAlignment) (.type "BaseException") = some true) (ety_InvalidAlignment : PySem.W.typeIn K (.ref E_InvalidAlignment) = some (.type "type")) (ek_InvalidAlignment : PySem.W.keepIn K (.ref E_InvalidAlignment) = true)
    (emr_InvalidAlignment : PySem.W.mroIn K E_InvalidAlignment (.ref E_InvalidAlignment) = some true) (esI_InvalidAlignment : PySem.W.ks_superIn K E_InvalidAlignment E_InvalidAlignment "__init__" = some (some (.builtin "ValueError.__init__"))) (eB_InvalidAlignment : PySem.W.subIn K (.ref E_InvalidAlignment) (.type "ValueError") = some true) (etI_InvalidAlignment : PySem.W.typeIn K (.ref fi_InvalidAlignment) = some (.type "function")) (emd_InvalidAlignment : PySem.W.excInitIn K E_InvalidAlignment (bmOf PySem.F.excBase_ValueError) "ValueError.__new__" = true) (exf_InvalidAlignment : xfB K E_InvalidAlignment = true)
    (en_InvalidAlignment_value : PySem.W.findIn K (.ref E_InvalidAlignment) "value" = some none)
    (en_InvalidAlignment_code : PySem.W.findIn K (.ref E_InvalidAlignment) "code" = some none)
    (ei_InvalidScope : PySem.W.findIn K (.ref E_InvalidScope) "__init__" = some (some (.ref fi_InvalidScope))) (el_InvalidScope : K.lookup fi_InvalidScope = some ⟨oc_InvalidScope, od_InvalidScope, .func (PySem.W.ksFn "__init__" "InvalidScope.__init__" (defArgs s_E_InvalidScope) (defBody s_E_InvalidScope) (defScope s_E_InvalidScope) .none kV_InvalidScope dc_InvalidScope pm_InvalidScope an_InvalidScope (.ref cda_InvalidScope) ct_InvalidScope cl_InvalidScope), os_InvalidScope⟩)
    (eco_InvalidScope : PySem.W.codeIn K (.ref cda_InvalidScope) "InvalidScope.__init__" = true) (elc_InvalidScope : K.lookup cda_InvalidScope = some ⟨ccl_InvalidScope, cdd_InvalidScope, .fields vsC_InvalidScope, ccs_InvalidScope⟩) (ef_InvalidScope : vsC_InvalidScope[2]? = some (.str FL tf_InvalidScope)) (ece_InvalidScope : K.lookup cl_InvalidScope = some ⟨ccv_InvalidScope, cld_InvalidScope, .cell (some (.ref E_InvalidScope)), csl_InvalidScope⟩) (ecl_InvalidScope : PySem.W.clsIn K E_InvalidScope = some cd_InvalidScope)
    (eC_InvalidScope : K.lookup E_InvalidScope = some (excClassObj nm_InvalidScope q_InvalidScope E_InvalidScope N_InvalidScope bs_InvalidScope bm_InvalidScope true sn_InvalidScope sub_InvalidScope ab_InvalidScope col_InvalidScope dd_InvalidScope k0_InvalidScope k1_InvalidScope k2_InvalidScope k3_InvalidScope k5_InvalidScope "ValueError.__new__")) (erf_InvalidScope : PySem.HandSPX.refsVE bm_InvalidScope = true) (esa_InvalidScope : PySem.W.findIn K (.ref E_InvalidScope) "__setattr__" = some (some (.builtin "object.__setattr__"))) (eex_InvalidScope : PySem.W.subIn K (.ref E_InvalidScope) (.type "BaseException") = some true) (ety_InvalidScope : PySem.W.typeIn K (.ref E_InvalidScope) = some (.type "type")) (ek_InvalidScope : PySem.W.keepIn K (.ref E_InvalidScope) = true)
    (emr_InvalidScope : PySem.W.mroIn K E_InvalidScope (.ref E_InvalidScope) = some true) (esI_InvalidScope : PySem.W.ks_superIn K E_InvalidScope E_InvalidScope "__init__" = some (some (.builtin "ValueError.__init__"))) (eB_InvalidScope : PySem.W.subIn K (.ref E_InvalidScope) (.type "ValueError") = some true) (etI_InvalidScope : PySem.W.typeIn K (.ref fi_InvalidScope) = some (.type "function")) (emd_InvalidScope : PySem.W.excInitIn K E_InvalidScope (bmOf PySem.F.excBase_ValueError) "ValueError.__new__" = true) (exf_InvalidScope : xfB K E_InvalidScope = true)
    (en_InvalidScope_value : PySem.W.findIn K (.ref E_InvalidScope) "value" = some none)
    (en_InvalidScope_code : PySem.W.findIn K (.ref E_InvalidScope) "code" = some none)
    (ei_InvalidRow : PySem.W.findIn K (.ref E_InvalidRow) "__init__" = some (some (.ref fi_InvalidRow))) (el_InvalidRow : K.lookup fi_InvalidRow = some ⟨oc_InvalidRow, od_InvalidRow, .func (PySem.W.ksFn "__init__" "InvalidRow.__init__" (defArgs s_E_InvalidRow) (defBody s_E_InvalidRow) (defScope s_E_InvalidRow) .none kV_InvalidRow dc_InvalidRow pm_InvalidRow an_InvalidRow (.ref cda_InvalidRow) ct_InvalidRow cl_InvalidRow), os_InvalidRow⟩)
    (eco_InvalidRow : PySem.W.codeIn K (.ref cda_InvalidRow) "InvalidRow.__init__" = true) (elc_InvalidRow : K.lookup cda_InvalidRow = some ⟨ccl_InvalidRow, cdd_InvalidRow, .fields vsC_InvalidRow, ccs_InvalidRow⟩) (ef_InvalidRow : vsC_InvalidRow[2]? = some (.str FL tf_InvalidRow)) (ece_InvalidRow : K.lookup cl_InvalidRow = some ⟨ccv_InvalidRow, cld_InvalidRow, .cell (some (.ref E_InvalidRow)), csl_InvalidRow⟩) (ecl_InvalidRow : PySem.W.clsIn K E_InvalidRow = some cd_InvalidRow)
    (eC_InvalidRow : K.lookup E_InvalidRow = some (excClassObj nm_InvalidRow q_InvalidRow E_InvalidRow N_InvalidRow bs_InvalidRow bm_InvalidRow true sn_InvalidRow sub_InvalidRow ab_InvalidRow col_InvalidRow dd_InvalidRow k0_InvalidRow k1_InvalidRow k2_InvalidRow k3_InvalidRow k5_InvalidRow "ValueError.__new__")) (erf_InvalidRow : PySem.HandSPX.refsVE bm_InvalidRow = true) (esa_InvalidRow : PySem.W.findIn K (.ref E_InvalidRow) "__setattr__" = some (some (.builtin "object.__setattr__"))) (eex_InvalidRow : PySem.W.subIn K (.ref E_InvalidRow) (.type "BaseException") = some true) (ety_InvalidRow : PySem.W.typeIn K (.ref E_InvalidRow) = some (.type "type")) (ek_InvalidRow : PySem.W.keepIn K (.ref E_InvalidRow) = true)
    (emr_InvalidRow : PySem.W.mroIn K E_InvalidRow (.ref E_InvalidRow) = some true) (esI_InvalidRow : PySem.W.ks_superIn K E_InvalidRow E_InvalidRow "__init__" = some (some (.builtin "ValueError.__init__"))) (eB_InvalidRow : PySem.W.subIn K (.ref E_InvalidRow) (.type "ValueError") = some true) (etI_InvalidRow : PySem.W.typeIn K (.ref fi_InvalidRow) = some (.type "function")) (emd_InvalidRow : PySem.W.excInitIn K E_InvalidRow (bmOf PySem.F.excBase_ValueError) "ValueError.__new__" = true) (exf_InvalidRow : xfB K E_InvalidRow = true)
    (en_InvalidRow_at : PySem.W.findIn K (.ref E_InvalidRow) "at" = some none)
    (en_InvalidRow_code : PySem.W.findIn K (.ref E_InvalidRow) "code" = some none)
    (ei_NotClosing : PySem.W.findIn K (.ref E_NotClosing) "__init__" = some (some (.ref fi_NotClosing))) (el_NotClosing : K.lookup fi_NotClosing = some ⟨oc_NotClosing, od_NotClosing, .func (PySem.W.ksFn "__init__" "NotClosing.__init__" (defArgs s_E_NotClosing) (defBody s_E_NotClosing) (defScope s_E_NotClosing) .none kV_NotClosing dc_NotClosing pm_NotClosing an_NotClosing (.ref cda_NotClosing) ct_NotClosing cl_NotClosing), os_NotClosing⟩)
    (eco_NotClosing : PySem.W.codeIn K (.ref cda_NotClosing) "NotClosing.__init__" = true) (elc_NotClosing : K.lookup cda_NotClosing = some ⟨ccl_NotClosing, cdd_NotClosing, .fields vsC_NotClosing, ccs_NotClosing⟩) (ef_NotClosing : vsC_NotClosing[2]? = some (.str FL tf_NotClosing)) (ece_NotClosing : K.lookup cl_NotClosing = some ⟨ccv_NotClosing, cld_NotClosing, .cell (some (.ref E_NotClosing)), csl_NotClosing⟩) (ecl_NotClosing : PySem.W.clsIn K E_NotClosing = some cd_NotClosing)
    (eC_NotClosing : K.lookup E_NotClosing = some (excClassObj nm_NotClosing q_NotClosing E_NotClosing N_NotClosing bs_NotClosing bm_NotClosing true sn_NotClosing sub_NotClosing ab_NotClosing col_NotClosing dd_NotClosing k0_NotClosing k1_NotClosing k2_NotClosing k3_NotClosing k5_NotClosing "ValueError.__new__")) (erf_NotClosing : PySem.HandSPX.refsVE bm_NotClosing = true) (esa_NotClosing : PySem.W.findIn K (.ref E_NotClosing) "__setattr__" = some (some (.builtin "object.__setattr__"))) (eex_NotClosing : PySem.W.subIn K (.ref E_NotClosing) (.type "BaseException") = some true) (ety_NotClosing : PySem.W.typeIn K (.ref E_NotClosing) = some (.type "type")) (ek_NotClosing : PySem.W.keepIn K (.ref E_NotClosing) = true)
    (emr_NotClosing : PySem.W.mroIn K E_NotClosing (.ref E_NotClosing) = some true) (esI_NotClosing : PySem.W.ks_superIn K E_NotClosing E_NotClosing "__init__" = some (some (.builtin "ValueError.__init__"))) (eB_NotClosing : PySem.W.subIn K (.ref E_NotClosing) (.type "ValueError") = some true) (etI_NotClosing : PySem.W.typeIn K (.ref fi_NotClosing) = some (.type "function")) (emd_NotClosing : PySem.W.excInitIn K E_NotClosing (bmOf PySem.F.excBase_ValueError) "ValueError.__new__" = true) (exf_NotClosing : xfB K E_NotClosing = true)
    (en_NotClosing_code : PySem.W.findIn K (.ref E_NotClosing) "code" = some none)
    (ei_InvalidPiece : PySem.W.findIn K (.ref E_InvalidPiece) "__init__" = some (some (.ref fi_InvalidPiece))) (el_InvalidPiece : K.lookup fi_InvalidPiece = some ⟨oc_InvalidPiece, od_InvalidPiece, .func (PySem.W.ksFn "__init__" "InvalidPiece.__init__" (defArgs s_E_InvalidPiece) (defBody s_E_InvalidPiece) (defScope s_E_InvalidPiece) .none kV_InvalidPiece dc_InvalidPiece pm_InvalidPiece an_InvalidPiece (.ref cda_InvalidPiece) ct_InvalidPiece cl_InvalidPiece), os_InvalidPiece⟩)
    (eco_InvalidPiece : PySem.W.codeIn K (.ref cda_InvalidPiece) "InvalidPiece.__init__" = true) (elc_InvalidPiece : K.lookup cda_InvalidPiece = some ⟨ccl_InvalidPiece, cdd_InvalidPiece, .fields vsC_InvalidPiece, ccs_InvalidPiece⟩) (ef_InvalidPiece : vsC_InvalidPiece[2]? = some (.str FL tf_InvalidPiece)) (ece_InvalidPiece : K.lookup cl_InvalidPiece = some ⟨ccv_InvalidPiece, cld_InvalidPiece, .cell (some (.ref E_InvalidPiece)), csl_InvalidPiece⟩) (ecl_InvalidPiece : PySem.W.clsIn K E_InvalidPiece = some cd_InvalidPiece)
    (eC_InvalidPiece : K.lookup E_InvalidPiece = some (excClassObj nm_InvalidPiece q_InvalidPiece E_InvalidPiece N_InvalidPiece bs_InvalidPiece bm_InvalidPiece true sn_InvalidPiece sub_InvalidPiece ab_InvalidPiece col_InvalidPiece dd_InvalidPiece k0_InvalidPiece k1_InvalidPiece k2_InvalidPiece k3_InvalidPiece k5_InvalidPiece "ValueError.__new__")) (erf_InvalidPiece : PySem.HandSPX.refsVE bm_InvalidPiece = true) (esa_InvalidPiece : PySem.W.findIn K (.ref E_InvalidPiece) "__setattr__" = some (some (.builtin "object.__setattr__"))) (eex_InvalidPiece : PySem.W.subIn K (.ref E_InvalidPiece) (.type "BaseException") = some true) (ety_InvalidPiece : PySem.W.typeIn K (.ref E_InvalidPiece) = some (.type "type")) (ek_InvalidPiece : PySem.W.keepIn K (.ref E_InvalidPiece) = true)
    (emr_InvalidPiece : PySem.W.mroIn K E_InvalidPiece (.ref E_InvalidPiece) = some true) (esI_InvalidPiece : PySem.W.ks_superIn K E_InvalidPiece E_InvalidPiece "__init__" = some (some (.builtin "ValueError.__init__"))) (eB_InvalidPiece : PySem.W.subIn K (.ref E_InvalidPiece) (.type "ValueError") = some true) (etI_InvalidPiece : PySem.W.typeIn K (.ref fi_InvalidPiece) = some (.type "function")) (emd_InvalidPiece : PySem.W.excInitIn K E_InvalidPiece (bmOf PySem.F.excBase_ValueError) "ValueError.__new__" = true) (exf_InvalidPiece : xfB K E_InvalidPiece = true)
    (en_InvalidPiece_at : PySem.W.findIn K (.ref E_InvalidPiece) "at" = some none)
    (en_InvalidPiece_code : PySem.W.findIn K (.ref E_InvalidPiece) "code" = some none)
    (ei_InvalidOutside : PySem.W.findIn K (.ref E_InvalidOutside) "__init__" = some (some (.ref fi_InvalidOutside))) (el_InvalidOutside : K.lookup fi_InvalidOutside = some ⟨oc_InvalidOutside, od_InvalidOutside, .func (PySem.W.ksFn "__init__" "InvalidOutside.__init__" (defArgs s_E_InvalidOutside) (defBody s_E_InvalidOutside) (defScope s_E_InvalidOutside) .none kV_InvalidOutside dc_InvalidOutside pm_InvalidOutside an_InvalidOutside (.ref cda_InvalidOutside) ct_InvalidOutside cl_InvalidOutside), os_InvalidOutside⟩)
    (eco_InvalidOutside : PySem.W.codeIn K (.ref cda_InvalidOutside) "InvalidOutside.__init__" = true) (elc_InvalidOutside : K.lookup cda_InvalidOutside = some ⟨ccl_InvalidOutside, cdd_InvalidOutside, .fields vsC_InvalidOutside, ccs_InvalidOutside⟩) (ef_InvalidOutside : vsC_InvalidOutside[2]? = some (.str FL tf_InvalidOutside)) (ece_InvalidOutside : K.lookup cl_InvalidOutside = some ⟨ccv_InvalidOutside, cld_InvalidOutside, .cell (some (.ref E_InvalidOutside)), csl_InvalidOutside⟩) (ecl_InvalidOutside : PySem.W.clsIn K E_InvalidOutside = some cd_InvalidOutside)
    (eC_InvalidOutside : K.lookup E_InvalidOutside = some (excClassObj nm_InvalidOutside q_InvalidOutside E_InvalidOutside N_InvalidOutside bs_InvalidOutside bm_InvalidOutside true sn_InvalidOutside sub_InvalidOutside ab_InvalidOutside col_InvalidOutside dd_InvalidOutside k0_InvalidOutside k1_InvalidOutside k2_InvalidOutside k3_InvalidOutside k5_InvalidOutside "ValueError.__new__")) (erf_InvalidOutside : PySem.HandSPX.refsVE bm_InvalidOutside = true) (esa_InvalidOutside : PySem.W.findIn K (.ref E_InvalidOutside) "__setattr__" = some (some (.builtin "object.__setattr__"))) (eex_InvalidOutside : PySem.W.subIn K (.ref E_InvalidOutside) (.type "BaseException") = some true) (ety_InvalidOutside : PySem.W.typeIn K (.ref E_InvalidOutside) = some (.type "type")) (ek_InvalidOutside : PySem.W.keepIn K (.ref E_InvalidOutside) = true)
    (emr_InvalidOutside : PySem.W.mroIn K E_InvalidOutside (.ref E_InvalidOutside) = some true) (esI_InvalidOutside : PySem.W.ks_superIn K E_InvalidOutside E_InvalidOutside "__init__" = some (some (.builtin "ValueError.__init__"))) (eB_InvalidOutside : PySem.W.subIn K (.ref E_InvalidOutside) (.type "ValueError") = some true) (etI_InvalidOutside : PySem.W.typeIn K (.ref fi_InvalidOutside) = some (.type "function")) (emd_InvalidOutside : PySem.W.excInitIn K E_InvalidOutside (bmOf PySem.F.excBase_ValueError) "ValueError.__new__" = true) (exf_InvalidOutside : xfB K E_InvalidOutside = true)
    (en_InvalidOutside_at : PySem.W.findIn K (.ref E_InvalidOutside) "at" = some none)
    (en_InvalidOutside_code : PySem.W.findIn K (.ref E_InvalidOutside) "code" = some none)
    (ei_InvalidMember : PySem.W.findIn K (.ref E_InvalidMember) "__init__" = some (some (.ref fi_InvalidMember))) (el_InvalidMember : K.lookup fi_InvalidMember = some ⟨oc_InvalidMember, od_InvalidMember, .func (PySem.W.ksFn "__init__" "InvalidMember.__init__" (defArgs s_E_InvalidMember) (defBody s_E_InvalidMember) (defScope s_E_InvalidMember) .none kV_InvalidMember dc_InvalidMember pm_InvalidMember an_InvalidMember (.ref cda_InvalidMember) ct_InvalidMember cl_InvalidMember), os_InvalidMember⟩)
    (eco_InvalidMember : PySem.W.codeIn K (.ref cda_InvalidMember) "InvalidMember.__init__" = true) (elc_InvalidMember : K.lookup cda_InvalidMember = some ⟨ccl_InvalidMember, cdd_InvalidMember, .fields vsC_InvalidMember, ccs_InvalidMember⟩) (ef_InvalidMember : vsC_InvalidMember[2]? = some (.str FL tf_InvalidMember)) (ece_InvalidMember : K.lookup cl_InvalidMember = some ⟨ccv_InvalidMember, cld_InvalidMember, .cell (some (.ref E_InvalidMember)), csl_InvalidMember⟩) (ecl_InvalidMember : PySem.W.clsIn K E_InvalidMember = some cd_InvalidMember)
    (eC_InvalidMember : K.lookup E_InvalidMember = some (excClassObj nm_InvalidMember q_InvalidMember E_InvalidMember N_InvalidMember bs_InvalidMember bm_InvalidMember true sn_InvalidMember sub_InvalidMember ab_InvalidMember col_InvalidMember dd_InvalidMember k0_InvalidMember k1_InvalidMember k2_InvalidMember k3_InvalidMember k5_InvalidMember "ValueError.__new__")) (erf_InvalidMember : PySem.HandSPX.refsVE bm_InvalidMember = true) (esa_InvalidMember : PySem.W.findIn K (.ref E_InvalidMember) "__setattr__" = some (some (.builtin "object.__setattr__"))) (eex_InvalidMember : PySem.W.subIn K (.ref E_InvalidMember) (.type "BaseException") = some true) (ety_InvalidMember : PySem.W.typeIn K (.ref E_InvalidMember) = some (.type "type")) (ek_InvalidMember : PySem.W.keepIn K (.ref E_InvalidMember) = true)
    (emr_InvalidMember : PySem.W.mroIn K E_InvalidMember (.ref E_InvalidMember) = some true) (esI_InvalidMember : PySem.W.ks_superIn K E_InvalidMember E_InvalidMember "__init__" = some (some (.builtin "ValueError.__init__"))) (eB_InvalidMember : PySem.W.subIn K (.ref E_InvalidMember) (.type "ValueError") = some true) (etI_InvalidMember : PySem.W.typeIn K (.ref fi_InvalidMember) = some (.type "function")) (emd_InvalidMember : PySem.W.excInitIn K E_InvalidMember (bmOf PySem.F.excBase_ValueError) "ValueError.__new__" = true) (exf_InvalidMember : xfB K E_InvalidMember = true)
    (en_InvalidMember_at : PySem.W.findIn K (.ref E_InvalidMember) "at" = some none)
    (en_InvalidMember_code : PySem.W.findIn K (.ref E_InvalidMember) "code" = some none)
    (ei_DuplicateName : PySem.W.findIn K (.ref E_DuplicateName) "__init__" = some (some (.ref fi_DuplicateName))) (el_DuplicateName : K.lookup fi_DuplicateName = some ⟨oc_DuplicateName, od_DuplicateName, .func (PySem.W.ksFn "__init__" "DuplicateName.__init__" (defArgs s_E_DuplicateName) (defBody s_E_DuplicateName) (defScope s_E_DuplicateName) .none kV_DuplicateName dc_DuplicateName pm_DuplicateName an_DuplicateName (.ref cda_DuplicateName) ct_DuplicateName cl_DuplicateName), os_DuplicateName⟩)
    (eco_DuplicateName : PySem.W.codeIn K (.ref cda_DuplicateName) "DuplicateName.__init__" = true) (elc_DuplicateName : K.lookup cda_DuplicateName = some ⟨ccl_DuplicateName, cdd_DuplicateName, .fields vsC_DuplicateName, ccs_DuplicateName⟩) (ef_DuplicateName : vsC_DuplicateName[2]? = some (.str FL tf_DuplicateName)) (ece_DuplicateName : K.lookup cl_DuplicateName = some ⟨ccv_DuplicateName, cld_DuplicateName, .cell (some (.ref E_DuplicateName)), csl_DuplicateName⟩) (ecl_DuplicateName : PySem.W.clsIn K E_DuplicateName = some cd_DuplicateName)
    (eC_DuplicateName : K.lookup E_DuplicateName = some (excClassObj nm_DuplicateName q_DuplicateName E_DuplicateName N_DuplicateName bs_DuplicateName bm_DuplicateName true sn_DuplicateName sub_DuplicateName ab_DuplicateName col_DuplicateName dd_DuplicateName k0_DuplicateName k1_DuplicateName k2_DuplicateName k3_DuplicateName k5_DuplicateName "ValueError.__new__")) (erf_DuplicateName : PySem.HandSPX.refsVE bm_DuplicateName = true) (esa_DuplicateName : PySem.W.findIn K (.ref E_DuplicateName) "__setattr__" = some (some (.builtin "object.__setattr__"))) (eex_DuplicateName : PySem.W.subIn K (.ref E_DuplicateName) (.type "BaseException") = some true) (ety_DuplicateName : PySem.W.typeIn K (.ref E_DuplicateName) = some (.type "type")) (ek_DuplicateName : PySem.W.keepIn K (.ref E_DuplicateName) = true)
    (emr_DuplicateName : PySem.W.mroIn K E_DuplicateName (.ref E_DuplicateName) = some true) (esI_DuplicateName : PySem.W.ks_superIn K E_DuplicateName E_DuplicateName "__init__" = some (some (.builtin "ValueError.__init__"))) (eB_DuplicateName : PySem.W.subIn K (.ref E_DuplicateName) (.type "ValueError") = some true) (etI_DuplicateName : PySem.W.typeIn K (.ref fi_DuplicateName) = some (.type "function")) (emd_DuplicateName : PySem.W.excInitIn K E_DuplicateName (bmOf PySem.F.excBase_ValueError) "ValueError.__new__" = true) (exf_DuplicateName : xfB K E_DuplicateName = true)
    (en_DuplicateName_name : PySem.W.findIn K (.ref E_DuplicateName) "name" = some none)
    (en_DuplicateName_code : PySem.W.findIn K (.ref E_DuplicateName) "code" = some none)
    (ei_TooMany : PySem.W.findIn K (.ref E_TooMany) "__init__" = some (some (.ref fi_TooMany))) (el_TooMany : K.lookup fi_TooMany = some ⟨oc_TooMany, od_TooMany, .func (PySem.W.ksFn "__init__" "TooMany.__init__" (defArgs s_E_TooMany) (defBody s_E_TooMany) (defScope s_E_TooMany) .none kV_TooMany dc_TooMany pm_TooMany an_TooMany (.ref cda_TooMany) ct_TooMany cl_TooMany), os_TooMany⟩)
    (eco_TooMany : PySem.W.codeIn K (.ref cda_TooMany) "TooMany.__init__" = true) (elc_TooMany : K.lookup cda_TooMany = some ⟨ccl_TooMany, cdd_TooMany, .fields vsC_TooMany, ccs_TooMany⟩) (ef_TooMany : vsC_TooMany[2]? = some (.str FL tf_TooMany)) (ece_TooMany : K.lookup cl_TooMany = some ⟨ccv_TooMany, cld_TooMany, .cell (some (.ref E_TooMany)), csl_TooMany⟩) (ecl_TooMany : PySem.W.clsIn K E_TooMany = some cd_TooMany)
    (eC_TooMany : K.lookup E_TooMany = some (excClassObj nm_TooMany q_TooMany E_TooMany N_TooMany bs_TooMany bm_TooMany true sn_TooMany sub_TooMany ab_TooMany col_TooMany dd_TooMany k0_TooMany k1_TooMany k2_TooMany k3_TooMany k5_TooMany "ValueError.__new__")) (erf_TooMany : PySem.HandSPX.refsVE bm_TooMany = true) (esa_TooMany : PySem.W.findIn K (.ref E_TooMany) "__setattr__" = some (some (.builtin "object.__setattr__"))) (eex_TooMany : PySem.W.subIn K (.ref E_TooMany) (.type "BaseException") = some true) (ety_TooMany : PySem.W.typeIn K (.ref E_TooMany) = some (.type "type")) (ek_TooMany : PySem.W.keepIn K (.ref E_TooMany) = true)
    (emr_TooMany : PySem.W.mroIn K E_TooMany (.ref E_TooMany) = some true) (esI_TooMany : PySem.W.ks_superIn K E_TooMany E_TooMany "__init__" = some (some (.builtin "ValueError.__init__"))) (eB_TooMany : PySem.W.subIn K (.ref E_TooMany) (.type "ValueError") = some true) (etI_TooMany : PySem.W.typeIn K (.ref fi_TooMany) = some (.type "function")) (emd_TooMany : PySem.W.excInitIn K E_TooMany (bmOf PySem.F.excBase_ValueError) "ValueError.__new__" = true) (exf_TooMany : xfB K E_TooMany = true)
    (en_TooMany_most : PySem.W.findIn K (.ref E_TooMany) "most" = some none)
    (en_TooMany_code : PySem.W.findIn K (.ref E_TooMany) "code" = some none)
    (exm_InvalidName : PySem.W.exmAny K (.ref E_InvalidName) [.ref E_ImageError, .ref E_Missing] = some true)
    (exm_InvalidPart : PySem.W.exmAny K (.ref E_InvalidPart) [.ref E_ImageError, .ref E_Missing] = some true)
    (exm_InvalidAlignment : PySem.W.exmAny K (.ref E_InvalidAlignment) [.ref E_ImageError, .ref E_Missing] = some true)
    (exm_InvalidScope : PySem.W.exmAny K (.ref E_InvalidScope) [.ref E_ImageError, .ref E_Missing] = some true)
    (exm_InvalidRow : PySem.W.exmAny K (.ref E_InvalidRow) [.ref E_ImageError, .ref E_Missing] = some true)
    (exm_NotClosing : PySem.W.exmAny K (.ref E_NotClosing) [.ref E_ImageError, .ref E_Missing] = some true)
    (exm_InvalidPiece : PySem.W.exmAny K (.ref E_InvalidPiece) [.ref E_ImageError, .ref E_Missing] = some true)
    (exm_InvalidOutside : PySem.W.exmAny K (.ref E_InvalidOutside) [.ref E_ImageError, .ref E_Missing] = some true)
    (exm_InvalidMember : PySem.W.exmAny K (.ref E_InvalidMember) [.ref E_ImageError, .ref E_Missing] = some true)
    (exm_DuplicateName : PySem.W.exmAny K (.ref E_DuplicateName) [.ref E_ImageError, .ref E_Missing] = some true)
    (exm_TooMany : PySem.W.exmAny K (.ref E_TooMany) [.ref E_ImageError, .ref E_Missing] = some true)
    : LawAtS l w K C8.CX0 23 63 "_law_script" mg fa h := by
  have e := hfa.symm.trans (PySem.W.mg_of X G a_law)
  cases e
  have F_is_name := fun_mk (st := s_is_name) l_is_name c_is_name k_is_name
  have F_is_register := fun_mk (st := s_is_register) l_is_register c_is_register k_is_register
  have F_is_number := fun_mk (st := s_is_number) l_is_number c_is_number k_is_number
  have F_is_code_row := fun_mk (st := s_is_code_row) l_is_code_row c_is_code_row k_is_code_row
  have F_is_data_row := fun_mk (st := s_is_data_row) l_is_data_row c_is_data_row k_is_data_row
  have F_is_row_of := fun_mk (st := s_is_row_of) l_is_row_of c_is_row_of k_is_row_of
  have F_is_closing := fun_mk (st := s_is_closing) l_is_closing c_is_closing k_is_closing
  have F_word_of := fun_mk (st := s_word_of) l_word_of c_word_of k_word_of
  have F_fit := fun_mk (st := s_fit) l_fit c_fit k_fit
  have F_fits := fun_mk (st := s_fits) l_fits c_fits k_fits
  have F_Piece___init__ : FunD K "__init__" "Piece.__init__" (defArgs s_Piece___init__) (defBody s_Piece___init__) (defScope s_Piece___init__) [] [("alignment", .int 1), ("scope", .str "local"), ("keep", .bl false)] f_Piece___init__ _ := ⟨⟨_, _, _, _, _, _, _, _, _, _, rfl, l_Piece___init__, c_Piece___init__, .inl ⟨rfl, rfl⟩, .inr ⟨kd_Piece___init__, rfl, (kwmem1 ⟨_, kw_Piece___init___alignment, ⟨_, rfl⟩⟩ (kwmem1 ⟨_, kw_Piece___init___scope, ⟨_, rfl⟩⟩ (kwmem1 ⟨_, kw_Piece___init___keep, rfl⟩ kwmem0)))⟩⟩, k_Piece___init__⟩
  have F_is_part := fun_mk (st := s_is_part) l_is_part c_is_part k_is_part
  have F_is_alignment := fun_mk (st := s_is_alignment) l_is_alignment c_is_alignment k_is_alignment
  have F_is_scope_of := fun_mk (st := s_is_scope_of) l_is_scope_of c_is_scope_of k_is_scope_of
  have F_ends_closing := fun_mk (st := s_ends_closing) l_ends_closing c_ends_closing k_ends_closing
  have F_check_rows := fun_mk (st := s_check_rows) l_check_rows c_check_rows k_check_rows
  have F_Object___init__ : FunD K "__init__" "Object.__init__" (defArgs s_Object___init__) (defBody s_Object___init__) (defScope s_Object___init__) [] [("outside", .ref te_Object___init___outside)] f_Object___init__ _ := ⟨⟨_, _, _, _, _, _, _, _, _, _, rfl, l_Object___init__, c_Object___init__, .inl ⟨rfl, rfl⟩, .inr ⟨kd_Object___init__, rfl, (kwmem1 ⟨_, kw_Object___init___outside, rfl⟩ kwmem0)⟩⟩, k_Object___init__⟩
  have F_Object_pieces := fun_mk (st := s_Object_pieces) l_Object_pieces c_Object_pieces k_Object_pieces
  have F_Object_outside := fun_mk (st := s_Object_outside) l_Object_outside c_Object_outside k_Object_outside
  have F_Object_with_piece := fun_mk (st := s_Object_with_piece) l_Object_with_piece c_Object_with_piece k_Object_with_piece
  have F_Object___contains__ := fun_mk (st := s_Object___contains__) l_Object___contains__ c_Object___contains__ k_Object___contains__
  have F_Object___eq__ := fun_mk (st := s_Object___eq__) l_Object___eq__ c_Object___eq__ k_Object___eq__
  have F_Object___len__ := fun_mk (st := s_Object___len__) l_Object___len__ c_Object___len__ k_Object___len__
  have F_Object___repr__ := fun_mk (st := s_Object___repr__) l_Object___repr__ c_Object___repr__ k_Object___repr__
  have F_Archive___init__ := fun_mk (st := s_Archive___init__) l_Archive___init__ c_Archive___init__ k_Archive___init__
  have F_Archive___len__ := fun_mk (st := s_Archive___len__) l_Archive___len__ c_Archive___len__ k_Archive___len__
  have F_wide_object := fun_mk (st := s_wide_object) l_wide_object c_wide_object k_wide_object
  have F_check_object := fun_mk (st := s_check_object) l_check_object c_check_object k_check_object
  have F_check_names := fun_mk (st := s_check_names) l_check_names c_check_names k_check_names
  have F_check_outside := fun_mk (st := s_check_outside) l_check_outside c_check_outside k_check_outside
  have F_names := fun_mk (st := s_names) l_names c_names k_names
  have F_law_bag := fun_mk (st := s_law_bag) l_law_bag c_law_bag k_law_bag
  have F_law_draw := fun_mk (st := s_law_draw) l_law_draw c_law_draw k_law_draw
  have F_law_of := fun_mk (st := s_law_of) l_law_of c_law_of k_law_of
  have F_law_some := fun_mk (st := s_law_some) l_law_some c_law_some k_law_some
  have F_law_mixed := fun_mk (st := s_law_mixed) l_law_mixed c_law_mixed k_law_mixed
  have F_law_same := fun_mk (st := s_law_same) l_law_same c_law_same k_law_same
  have F_law_field := fun_mk (st := s_law_field) l_law_field c_law_field k_law_field
  have F_law_try := fun_mk (st := s_law_try) l_law_try c_law_try k_law_try
  have F_law_why := fun_mk (st := s_law_why) l_law_why c_law_why k_law_why
  have F_law_whys := fun_mk (st := s_law_whys) l_law_whys c_law_whys k_law_whys
  have F_law_odd := fun_mk (st := s_law_odd) l_law_odd c_law_odd k_law_odd
  have F_law_titles := fun_mk (st := s_law_titles) l_law_titles c_law_titles k_law_titles
  have F_law_is_title := fun_mk (st := s_law_is_title) l_law_is_title c_law_is_title k_law_is_title
  have F_law_outside_due := fun_mk (st := s_law_outside_due) l_law_outside_due c_law_outside_due k_law_outside_due
  have F_law_object_due := fun_mk (st := s_law_object_due) l_law_object_due c_law_object_due k_law_object_due
  have F_law_archive_due := fun_mk (st := s_law_archive_due) l_law_archive_due c_law_archive_due k_law_archive_due
  have F_law_small_piece := fun_mk (st := s_law_small_piece) l_law_small_piece c_law_small_piece k_law_small_piece
  have F_law_full_so := fun_mk (st := s_law_full_so) l_law_full_so c_law_full_so k_law_full_so
  have F_law_wide_so := fun_mk (st := s_law_wide_so) l_law_wide_so c_law_wide_so k_law_wide_so
  have F_law := fun_mk (st := s_law) l_law c_law k_law
  let Z : Fs := ⟨f_is_name, PySem.W.fnOf "is_name" "is_name" (defArgs s_is_name) (defBody s_is_name) (defScope s_is_name) .none kV_is_name dc_is_name pm_is_name an_is_name cd_is_name ct_is_name, f_is_register, PySem.W.fnOf "is_register" "is_register" (defArgs s_is_register) (defBody s_is_register) (defScope s_is_register) .none kV_is_register dc_is_register pm_is_register an_is_register cd_is_register ct_is_register, f_is_number, PySem.W.fnOf "is_number" "is_number" (defArgs s_is_number) (defBody s_is_number) (defScope s_is_number) .none kV_is_number dc_is_number pm_is_number an_is_number cd_is_number ct_is_number, f_is_code_row, PySem.W.fnOf "is_code_row" "is_code_row" (defArgs s_is_code_row) (defBody s_is_code_row) (defScope s_is_code_row) .none kV_is_code_row dc_is_code_row pm_is_code_row an_is_code_row cd_is_code_row ct_is_code_row, f_is_data_row, PySem.W.fnOf "is_data_row" "is_data_row" (defArgs s_is_data_row) (defBody s_is_data_row) (defScope s_is_data_row) .none kV_is_data_row dc_is_data_row pm_is_data_row an_is_data_row cd_is_data_row ct_is_data_row, f_is_row_of, PySem.W.fnOf "is_row_of" "is_row_of" (defArgs s_is_row_of) (defBody s_is_row_of) (defScope s_is_row_of) .none kV_is_row_of dc_is_row_of pm_is_row_of an_is_row_of cd_is_row_of ct_is_row_of, f_is_closing, PySem.W.fnOf "is_closing" "is_closing" (defArgs s_is_closing) (defBody s_is_closing) (defScope s_is_closing) .none kV_is_closing dc_is_closing pm_is_closing an_is_closing cd_is_closing ct_is_closing, f_word_of, PySem.W.fnOf "_word_of" "_word_of" (defArgs s_word_of) (defBody s_word_of) (defScope s_word_of) .none kV_word_of dc_word_of pm_word_of an_word_of cd_word_of ct_word_of, f_fit, PySem.W.fnOf "_fit" "_fit" (defArgs s_fit) (defBody s_fit) (defScope s_fit) .none kV_fit dc_fit pm_fit an_fit cd_fit ct_fit, f_fits, PySem.W.fnOf "_fits" "_fits" (defArgs s_fits) (defBody s_fits) (defScope s_fits) .none kV_fits dc_fits pm_fits an_fits cd_fits ct_fits, f_Piece___init__, PySem.W.fnOf "__init__" "Piece.__init__" (defArgs s_Piece___init__) (defBody s_Piece___init__) (defScope s_Piece___init__) .none (.ref kd_Piece___init__) dc_Piece___init__ pm_Piece___init__ an_Piece___init__ cd_Piece___init__ ct_Piece___init__, f_is_part, PySem.W.fnOf "is_part" "is_part" (defArgs s_is_part) (defBody s_is_part) (defScope s_is_part) .none kV_is_part dc_is_part pm_is_part an_is_part cd_is_part ct_is_part, f_is_alignment, PySem.W.fnOf "is_alignment" "is_alignment" (defArgs s_is_alignment) (defBody s_is_alignment) (defScope s_is_alignment) .none kV_is_alignment dc_is_alignment pm_is_alignment an_is_alignment cd_is_alignment ct_is_alignment, f_is_scope_of, PySem.W.fnOf "is_scope_of" "is_scope_of" (defArgs s_is_scope_of) (defBody s_is_scope_of) (defScope s_is_scope_of) .none kV_is_scope_of dc_is_scope_of pm_is_scope_of an_is_scope_of cd_is_scope_of ct_is_scope_of, f_ends_closing, PySem.W.fnOf "ends_closing" "ends_closing" (defArgs s_ends_closing) (defBody s_ends_closing) (defScope s_ends_closing) .none kV_ends_closing dc_ends_closing pm_ends_closing an_ends_closing cd_ends_closing ct_ends_closing, f_check_rows, PySem.W.fnOf "_check_rows" "_check_rows" (defArgs s_check_rows) (defBody s_check_rows) (defScope s_check_rows) .none kV_check_rows dc_check_rows pm_check_rows an_check_rows cd_check_rows ct_check_rows, f_Object___init__, PySem.W.fnOf "__init__" "Object.__init__" (defArgs s_Object___init__) (defBody s_Object___init__) (defScope s_Object___init__) .none (.ref kd_Object___init__) dc_Object___init__ pm_Object___init__ an_Object___init__ cd_Object___init__ ct_Object___init__, f_Object_pieces, PySem.W.fnOf "pieces" "Object.pieces" (defArgs s_Object_pieces) (defBody s_Object_pieces) (defScope s_Object_pieces) .none kV_Object_pieces dc_Object_pieces pm_Object_pieces an_Object_pieces cd_Object_pieces ct_Object_pieces, f_Object_outside, PySem.W.fnOf "outside" "Object.outside" (defArgs s_Object_outside) (defBody s_Object_outside) (defScope s_Object_outside) .none kV_Object_outside dc_Object_outside pm_Object_outside an_Object_outside cd_Object_outside ct_Object_outside, f_Object_with_piece, PySem.W.fnOf "with_piece" "Object.with_piece" (defArgs s_Object_with_piece) (defBody s_Object_with_piece) (defScope s_Object_with_piece) .none kV_Object_with_piece dc_Object_with_piece pm_Object_with_piece an_Object_with_piece cd_Object_with_piece ct_Object_with_piece, f_Object___contains__, PySem.W.fnOf "__contains__" "Object.__contains__" (defArgs s_Object___contains__) (defBody s_Object___contains__) (defScope s_Object___contains__) .none kV_Object___contains__ dc_Object___contains__ pm_Object___contains__ an_Object___contains__ cd_Object___contains__ ct_Object___contains__, f_Object___eq__, PySem.W.fnOf "__eq__" "Object.__eq__" (defArgs s_Object___eq__) (defBody s_Object___eq__) (defScope s_Object___eq__) .none kV_Object___eq__ dc_Object___eq__ pm_Object___eq__ an_Object___eq__ cd_Object___eq__ ct_Object___eq__, f_Object___len__, PySem.W.fnOf "__len__" "Object.__len__" (defArgs s_Object___len__) (defBody s_Object___len__) (defScope s_Object___len__) .none kV_Object___len__ dc_Object___len__ pm_Object___len__ an_Object___len__ cd_Object___len__ ct_Object___len__, f_Object___repr__, PySem.W.fnOf "__repr__" "Object.__repr__" (defArgs s_Object___repr__) (defBody s_Object___repr__) (defScope s_Object___repr__) .none kV_Object___repr__ dc_Object___repr__ pm_Object___repr__ an_Object___repr__ cd_Object___repr__ ct_Object___repr__, f_Archive___init__, PySem.W.fnOf "__init__" "Archive.__init__" (defArgs s_Archive___init__) (defBody s_Archive___init__) (defScope s_Archive___init__) .none kV_Archive___init__ dc_Archive___init__ pm_Archive___init__ an_Archive___init__ cd_Archive___init__ ct_Archive___init__, f_Archive___len__, PySem.W.fnOf "__len__" "Archive.__len__" (defArgs s_Archive___len__) (defBody s_Archive___len__) (defScope s_Archive___len__) .none kV_Archive___len__ dc_Archive___len__ pm_Archive___len__ an_Archive___len__ cd_Archive___len__ ct_Archive___len__, f_wide_object, PySem.W.fnOf "wide_object" "wide_object" (defArgs s_wide_object) (defBody s_wide_object) (defScope s_wide_object) .none kV_wide_object dc_wide_object pm_wide_object an_wide_object cd_wide_object ct_wide_object, f_check_object, PySem.W.fnOf "_check_object" "_check_object" (defArgs s_check_object) (defBody s_check_object) (defScope s_check_object) .none kV_check_object dc_check_object pm_check_object an_check_object cd_check_object ct_check_object, f_check_names, PySem.W.fnOf "check_names" "check_names" (defArgs s_check_names) (defBody s_check_names) (defScope s_check_names) .none kV_check_names dc_check_names pm_check_names an_check_names cd_check_names ct_check_names, f_check_outside, PySem.W.fnOf "_check_outside" "_check_outside" (defArgs s_check_outside) (defBody s_check_outside) (defScope s_check_outside) .none kV_check_outside dc_check_outside pm_check_outside an_check_outside cd_check_outside ct_check_outside, f_names, PySem.W.fnOf "_names" "_names" (defArgs s_names) (defBody s_names) (defScope s_names) .none kV_names dc_names pm_names an_names cd_names ct_names, f_law_bag, PySem.W.fnOf "_law_bag" "_law_bag" (defArgs s_law_bag) (defBody s_law_bag) (defScope s_law_bag) .none kV_law_bag dc_law_bag pm_law_bag an_law_bag cd_law_bag ct_law_bag, f_law_draw, PySem.W.fnOf "_law_draw" "_law_draw" (defArgs s_law_draw) (defBody s_law_draw) (defScope s_law_draw) .none kV_law_draw dc_law_draw pm_law_draw an_law_draw cd_law_draw ct_law_draw, f_law_of, PySem.W.fnOf "_law_of" "_law_of" (defArgs s_law_of) (defBody s_law_of) (defScope s_law_of) .none kV_law_of dc_law_of pm_law_of an_law_of cd_law_of ct_law_of, f_law_some, PySem.W.fnOf "_law_some" "_law_some" (defArgs s_law_some) (defBody s_law_some) (defScope s_law_some) .none kV_law_some dc_law_some pm_law_some an_law_some cd_law_some ct_law_some, f_law_mixed, PySem.W.fnOf "_law_mixed" "_law_mixed" (defArgs s_law_mixed) (defBody s_law_mixed) (defScope s_law_mixed) .none kV_law_mixed dc_law_mixed pm_law_mixed an_law_mixed cd_law_mixed ct_law_mixed, f_law_same, PySem.W.fnOf "_law_same" "_law_same" (defArgs s_law_same) (defBody s_law_same) (defScope s_law_same) .none kV_law_same dc_law_same pm_law_same an_law_same cd_law_same ct_law_same, f_law_field, PySem.W.fnOf "_law_field" "_law_field" (defArgs s_law_field) (defBody s_law_field) (defScope s_law_field) .none kV_law_field dc_law_field pm_law_field an_law_field cd_law_field ct_law_field, f_law_try, PySem.W.fnOf "_law_try" "_law_try" (defArgs s_law_try) (defBody s_law_try) (defScope s_law_try) .none kV_law_try dc_law_try pm_law_try an_law_try cd_law_try ct_law_try, f_law_why, PySem.W.fnOf "_law_why" "_law_why" (defArgs s_law_why) (defBody s_law_why) (defScope s_law_why) .none kV_law_why dc_law_why pm_law_why an_law_why cd_law_why ct_law_why, f_law_whys, PySem.W.fnOf "_law_whys" "_law_whys" (defArgs s_law_whys) (defBody s_law_whys) (defScope s_law_whys) .none kV_law_whys dc_law_whys pm_law_whys an_law_whys cd_law_whys ct_law_whys, f_law_odd, PySem.W.fnOf "_law_odd" "_law_odd" (defArgs s_law_odd) (defBody s_law_odd) (defScope s_law_odd) .none kV_law_odd dc_law_odd pm_law_odd an_law_odd cd_law_odd ct_law_odd, f_law_titles, PySem.W.fnOf "_law_titles" "_law_titles" (defArgs s_law_titles) (defBody s_law_titles) (defScope s_law_titles) .none kV_law_titles dc_law_titles pm_law_titles an_law_titles cd_law_titles ct_law_titles, f_law_is_title, PySem.W.fnOf "_law_is_title" "_law_is_title" (defArgs s_law_is_title) (defBody s_law_is_title) (defScope s_law_is_title) .none kV_law_is_title dc_law_is_title pm_law_is_title an_law_is_title cd_law_is_title ct_law_is_title, f_law_outside_due, PySem.W.fnOf "_law_outside_due" "_law_outside_due" (defArgs s_law_outside_due) (defBody s_law_outside_due) (defScope s_law_outside_due) .none kV_law_outside_due dc_law_outside_due pm_law_outside_due an_law_outside_due cd_law_outside_due ct_law_outside_due, f_law_object_due, PySem.W.fnOf "_law_object_due" "_law_object_due" (defArgs s_law_object_due) (defBody s_law_object_due) (defScope s_law_object_due) .none kV_law_object_due dc_law_object_due pm_law_object_due an_law_object_due cd_law_object_due ct_law_object_due, f_law_archive_due, PySem.W.fnOf "_law_archive_due" "_law_archive_due" (defArgs s_law_archive_due) (defBody s_law_archive_due) (defScope s_law_archive_due) .none kV_law_archive_due dc_law_archive_due pm_law_archive_due an_law_archive_due cd_law_archive_due ct_law_archive_due, f_law_small_piece, PySem.W.fnOf "_law_small_piece" "_law_small_piece" (defArgs s_law_small_piece) (defBody s_law_small_piece) (defScope s_law_small_piece) .none kV_law_small_piece dc_law_small_piece pm_law_small_piece an_law_small_piece cd_law_small_piece ct_law_small_piece, f_law_full_so, PySem.W.fnOf "_law_full_so" "_law_full_so" (defArgs s_law_full_so) (defBody s_law_full_so) (defScope s_law_full_so) .none kV_law_full_so dc_law_full_so pm_law_full_so an_law_full_so (.ref cc_law_full_so) ct_law_full_so, f_law_wide_so, PySem.W.fnOf "_law_wide_so" "_law_wide_so" (defArgs s_law_wide_so) (defBody s_law_wide_so) (defScope s_law_wide_so) .none kV_law_wide_so dc_law_wide_so pm_law_wide_so an_law_wide_so (.ref cc_law_wide_so) ct_law_wide_so, fa, PySem.W.fnOf "law" "law" (defArgs s_law) (defBody s_law) (defScope s_law) .none kV_law dc_law pm_law an_law (.ref cc_law) ct_law, qe_CODE_ROWS, qz_CODE_ROWS, qe_DATA_ROWS, qz_DATA_ROWS, qe_BOUNDS, qz_BOUNDS, f_C_Piece, f_C_Object, f_C_Archive, q_REGISTERS, q_CODE_ROWS, q_DATA_ROWS, q_BOUNDS, q_CLOSING, q_PARTS, q_ALIGNMENTS, q_SCOPES, te_Object___init___outside⟩
  have T : Txt K w mg Z := ⟨F_is_name,
    PySem.W.mg_of X G a_is_name,
    F_is_name.binds (ps := ["value"]) fun _ _ _ _ _ _ us hl => match us, hl with | [_], _ => rfl,
    F_is_register,
    PySem.W.mg_of X G a_is_register,
    F_is_register.binds (ps := ["value"]) fun _ _ _ _ _ _ us hl => match us, hl with | [_], _ => rfl,
    F_is_number,
    PySem.W.mg_of X G a_is_number,
    F_is_number.binds (ps := ["value", "least", "most"]) fun _ _ _ _ _ _ us hl => match us, hl with | [_, _, _], _ => rfl,
    F_is_code_row,
    PySem.W.mg_of X G a_is_code_row,
    F_is_code_row.binds (ps := ["value"]) fun _ _ _ _ _ _ us hl => match us, hl with | [_], _ => rfl,
    F_is_data_row,
    PySem.W.mg_of X G a_is_data_row,
    F_is_data_row.binds (ps := ["value"]) fun _ _ _ _ _ _ us hl => match us, hl with | [_], _ => rfl,
    F_is_row_of,
    PySem.W.mg_of X G a_is_row_of,
    F_is_row_of.binds (ps := ["part", "value"]) fun _ _ _ _ _ _ us hl => match us, hl with | [_, _], _ => rfl,
    F_is_closing,
    PySem.W.mg_of X G a_is_closing,
    F_is_closing.binds (ps := ["row"]) fun _ _ _ _ _ _ us hl => match us, hl with | [_], _ => rfl,
    F_word_of,
    PySem.W.mg_of X G a_word_of,
    F_word_of.binds (ps := ["value"]) fun _ _ _ _ _ _ us hl => match us, hl with | [_], _ => rfl,
    F_fit,
    PySem.W.mg_of X G a_fit,
    F_fit.binds (ps := ["items", "kinds"]) fun _ _ _ _ _ _ us hl => match us, hl with | [_, _], _ => rfl,
    F_fits,
    PySem.W.mg_of X G a_fits,
    F_fits.binds (ps := ["item", "kind"]) fun _ _ _ _ _ _ us hl => match us, hl with | [_, _], _ => rfl,
    F_Piece___init__,
    kbn_d_Piece___init___4 F_Piece___init__,
    F_is_part,
    PySem.W.mg_of X G a_is_part,
    F_is_part.binds (ps := ["value"]) fun _ _ _ _ _ _ us hl => match us, hl with | [_], _ => rfl,
    F_is_alignment,
    PySem.W.mg_of X G a_is_alignment,
    F_is_alignment.binds (ps := ["value"]) fun _ _ _ _ _ _ us hl => match us, hl with | [_], _ => rfl,
    F_is_scope_of,
    PySem.W.mg_of X G a_is_scope_of,
    F_is_scope_of.binds (ps := ["part", "value"]) fun _ _ _ _ _ _ us hl => match us, hl with | [_, _], _ => rfl,
    F_ends_closing,
    PySem.W.mg_of X G a_ends_closing,
    F_ends_closing.binds (ps := ["part", "rows"]) fun _ _ _ _ _ _ us hl => match us, hl with | [_, _], _ => rfl,
    F_check_rows,
    PySem.W.mg_of X G a_check_rows,
    F_check_rows.binds (ps := ["part", "rows"]) fun _ _ _ _ _ _ us hl => match us, hl with | [_, _], _ => rfl,
    fun _ => .inr ⟨_, _, _, ve_Object___init___outside, rfl, rfl, (Nat.le_trans (Nat.le_of_eq (Array.length_toList.symm.trans we_Object___init___outside.length.symm)) (by show 0 ≤ sizeLine; decide)), we_Object___init___outside⟩,
    F_Object___init__,
    ⟨a_Object_pieces, i_Object_pieces, k_Object_pieces⟩,
    F_Object_pieces,
    F_Object_pieces.binds (ps := ["self"]) fun _ _ _ _ _ _ us hl => match us, hl with | [_], _ => rfl,
    ⟨a_Object_outside, i_Object_outside, k_Object_outside⟩,
    F_Object_outside,
    F_Object_outside.binds (ps := ["self"]) fun _ _ _ _ _ _ us hl => match us, hl with | [_], _ => rfl,
    ⟨a_Object_with_piece, i_Object_with_piece, k_Object_with_piece⟩,
    F_Object_with_piece,
    F_Object_with_piece.binds (ps := ["self", "piece"]) fun _ _ _ _ _ _ us hl => match us, hl with | [_, _], _ => rfl,
    ⟨a_Object___contains__, i_Object___contains__⟩,
    F_Object___contains__,
    F_Object___contains__.binds (ps := ["self", "value"]) fun _ _ _ _ _ _ us hl => match us, hl with | [_, _], _ => rfl,
    ⟨a_Object___eq__, i_Object___eq__⟩,
    F_Object___eq__,
    F_Object___eq__.binds (ps := ["self", "other"]) fun _ _ _ _ _ _ us hl => match us, hl with | [_, _], _ => rfl,
    ⟨a_Object___len__, i_Object___len__⟩,
    F_Object___len__,
    F_Object___len__.binds (ps := ["self"]) fun _ _ _ _ _ _ us hl => match us, hl with | [_], _ => rfl,
    ⟨a_Object___repr__, i_Object___repr__⟩,
    F_Object___repr__,
    F_Object___repr__.binds (ps := ["self"]) fun _ _ _ _ _ _ us hl => match us, hl with | [_], _ => rfl,
    F_Archive___init__,
    ⟨a_Archive___len__, i_Archive___len__⟩,
    F_Archive___len__,
    F_Archive___len__.binds (ps := ["self"]) fun _ _ _ _ _ _ us hl => match us, hl with | [_], _ => rfl,
    F_wide_object,
    PySem.W.mg_of X G a_wide_object,
    F_wide_object.binds (ps := ["name", "pieces", "outside"]) fun _ _ _ _ _ _ us hl => match us, hl with | [_, _, _], _ => rfl,
    kbn_k_wide_object_0_outside_pieces_name F_wide_object,
    F_check_object,
    PySem.W.mg_of X G a_check_object,
    F_check_object.binds (ps := ["name", "pieces", "outside", "is_wide"]) fun _ _ _ _ _ _ us hl => match us, hl with | [_, _, _, _], _ => rfl,
    F_check_names,
    PySem.W.mg_of X G a_check_names,
    F_check_names.binds (ps := ["parts"]) fun _ _ _ _ _ _ us hl => match us, hl with | [_], _ => rfl,
    F_check_outside,
    PySem.W.mg_of X G a_check_outside,
    F_check_outside.binds (ps := ["outside", "names"]) fun _ _ _ _ _ _ us hl => match us, hl with | [_, _], _ => rfl,
    F_names,
    PySem.W.mg_of X G a_names,
    F_names.binds (ps := ["parts"]) fun _ _ _ _ _ _ us hl => match us, hl with | [_], _ => rfl,
    F_law_bag,
    PySem.W.mg_of X G a_law_bag,
    F_law_bag.binds (ps := ["_law_script"]) fun _ _ _ _ _ _ us hl => match us, hl with | [_], _ => rfl,
    F_law_draw,
    PySem.W.mg_of X G a_law_draw,
    F_law_draw.binds (ps := ["_law_bag_here", "_law_sides"]) fun _ _ _ _ _ _ us hl => match us, hl with | [_, _], _ => rfl,
    F_law_of,
    PySem.W.mg_of X G a_law_of,
    F_law_of.binds (ps := ["_law_bag_here", "_law_things"]) fun _ _ _ _ _ _ us hl => match us, hl with | [_, _], _ => rfl,
    F_law_some,
    PySem.W.mg_of X G a_law_some,
    F_law_some.binds (ps := ["_law_bag_here", "_law_things"]) fun _ _ _ _ _ _ us hl => match us, hl with | [_, _], _ => rfl,
    F_law_mixed,
    PySem.W.mg_of X G a_law_mixed,
    F_law_mixed.binds (ps := ["_law_bag_here", "_law_things"]) fun _ _ _ _ _ _ us hl => match us, hl with | [_, _], _ => rfl,
    F_law_same,
    PySem.W.mg_of X G a_law_same,
    F_law_same.binds (ps := ["_law_found", "_law_due"]) fun _ _ _ _ _ _ us hl => match us, hl with | [_, _], _ => rfl,
    F_law_field,
    PySem.W.mg_of X G a_law_field,
    F_law_field.binds (ps := ["_law_e"]) fun _ _ _ _ _ _ us hl => match us, hl with | [_], _ => rfl,
    F_law_try,
    PySem.W.mg_of X G a_law_try,
    F_law_try.binds (ps := ["_law_ask"]) fun _ _ _ _ _ _ us hl => match us, hl with | [_], _ => rfl,
    F_law_why,
    PySem.W.mg_of X G a_law_why,
    F_law_why.binds (ps := ["_law_ask"]) fun _ _ _ _ _ _ us hl => match us, hl with | [_], _ => rfl,
    F_law_whys,
    PySem.W.mg_of X G a_law_whys,
    F_law_whys.binds (ps := ["_law_asks"]) fun _ _ _ _ _ _ us hl => match us, hl with | [_], _ => rfl,
    F_law_odd,
    PySem.W.mg_of X G a_law_odd,
    F_law_odd.binds (ps := ["_law_bag_here", "_law_more"]) fun _ _ _ _ _ _ us hl => match us, hl with | [_, _], _ => rfl,
    F_law_titles,
    PySem.W.mg_of X G a_law_titles,
    F_law_titles.binds (ps := ["_law_bag_here", "_law_many"]) fun _ _ _ _ _ _ us hl => match us, hl with | [_, _], _ => rfl,
    F_law_is_title,
    PySem.W.mg_of X G a_law_is_title,
    F_law_is_title.binds (ps := ["_law_thing"]) fun _ _ _ _ _ _ us hl => match us, hl with | [_], _ => rfl,
    F_law_outside_due,
    PySem.W.mg_of X G a_law_outside_due,
    F_law_outside_due.binds (ps := ["_law_lot", "_law_names_y"]) fun _ _ _ _ _ _ us hl => match us, hl with | [_, _], _ => rfl,
    F_law_object_due,
    PySem.W.mg_of X G a_law_object_due,
    F_law_object_due.binds (ps := ["_law_title", "_law_values", "_law_lot"]) fun _ _ _ _ _ _ us hl => match us, hl with | [_, _, _], _ => rfl,
    F_law_archive_due,
    PySem.W.mg_of X G a_law_archive_due,
    F_law_archive_due.binds (ps := ["_law_title", "_law_values"]) fun _ _ _ _ _ _ us hl => match us, hl with | [_, _], _ => rfl,
    F_law_small_piece,
    PySem.W.mg_of X G a_law_small_piece,
    F_law_small_piece.binds (ps := ["_law_title"]) fun _ _ _ _ _ _ us hl => match us, hl with | [_], _ => rfl,
    F_law_full_so,
    PySem.W.mg_of X G a_law_full_so,
    F_law_full_so.binds (ps := ["_law_pool"]) fun _ _ _ _ _ _ us hl => match us, hl with | [_], _ => rfl,
    F_law_wide_so,
    PySem.W.mg_of X G a_law_wide_so,
    F_law_wide_so.binds (ps := ["_law_pool", "_law_p"]) fun _ _ _ _ _ _ us hl => match us, hl with | [_, _], _ => rfl,
    F_law,
    PySem.W.mg_of X G a_law,
    F_law.binds (ps := ["_law_script"]) fun _ _ _ _ _ _ us hl => match us, hl with | [_], _ => rfl,
    ⟨pg_Piece, hd_Piece, po_Piece, sa_Piece⟩,
    PySem.W.mg_of X G aC_Piece,
    ⟨mkk_Piece, a_Piece___init__, i_Piece___init__, kc_Piece⟩,
    nf_Piece_name,
    nf_Piece_part,
    nf_Piece_alignment,
    nf_Piece_scope,
    nf_Piece_keep,
    nf_Piece__rows,
    ⟨⟨⟨pg_Piece, hd_Piece, po_Piece, sa_Piece⟩, ha_Piece, hn_Piece, htk_Piece, hm_Piece, me_Piece⟩, isk_six it_Piece_NoneType it_Piece_bool it_Piece_int it_Piece_str it_Piece_list it_Piece_tuple, ne_Piece⟩,
    ⟨pg_Object, hd_Object, po_Object, sa_Object⟩,
    PySem.W.mg_of X G aC_Object,
    ⟨mkk_Object, a_Object___init__, i_Object___init__, kc_Object⟩,
    nf_Object_name,
    nf_Object__pieces,
    nf_Object__foreign,
    ⟨⟨⟨pg_Object, hd_Object, po_Object, sa_Object⟩, ha_Object, hn_Object, htk_Object, hm_Object, me_Object⟩, isk_six it_Object_NoneType it_Object_bool it_Object_int it_Object_str it_Object_list it_Object_tuple, ne_Object⟩,
    ⟨pg_Archive, hd_Archive, po_Archive, sa_Archive⟩,
    PySem.W.mg_of X G aC_Archive,
    ⟨mkk_Archive, a_Archive___init__, i_Archive___init__, kc_Archive⟩,
    nf_Archive_name,
    nf_Archive__members,
    ⟨⟨⟨pg_Archive, hd_Archive, po_Archive, sa_Archive⟩, ha_Archive, hn_Archive, htk_Archive, hm_Archive, me_Archive⟩, isk_six it_Archive_NoneType it_Archive_bool it_Archive_int it_Archive_str it_Archive_list it_Archive_tuple, ne_Archive⟩,
    ix_Object_Piece,
    ix_Archive_Piece,
    ix_Piece_Object,
    ix_Archive_Object,
    ix_Piece_Archive,
    ix_Object_Archive,
    PySem.W.mg_none_of X G n_abs,
    PySem.W.mg_none_of X G n_all,
    PySem.W.mg_none_of X G n_bool,
    PySem.W.mg_none_of X G n_enumerate,
    PySem.W.mg_none_of X G n_int,
    PySem.W.mg_none_of X G n_isinstance,
    PySem.W.mg_none_of X G n_len,
    PySem.W.mg_none_of X G n_list,
    PySem.W.mg_none_of X G n_range,
    PySem.W.mg_none_of X G n_repr,
    PySem.W.mg_none_of X G n_str,
    PySem.W.mg_none_of X G n_tuple,
    PySem.W.mg_none_of X G n_zip,
    ⟨_, PySem.W.mg_of X G g_MOST_LETTERS⟩,
    PySem.W.mg_of X G g_REGISTERS,
    fun _ => .inr ⟨_, _, _, v_REGISTERS, rfl, rfl, (Nat.le_trans (Nat.le_of_eq (Array.length_toList.symm.trans w_REGISTERS.length.symm)) (by show 3 ≤ sizeLine; decide)), w_REGISTERS⟩,
    ⟨_, v_REGISTERS, rfl, rfl⟩,
    PySem.W.mg_of X G g_CODE_ROWS,
    PySem.W.mg_of X G g_DATA_ROWS,
    PySem.W.mg_of X G g_BOUNDS,
    PySem.W.mg_of X G g_CLOSING,
    fun _ => .inr ⟨_, _, _, v_CLOSING, rfl, rfl, (Nat.le_trans (Nat.le_of_eq (Array.length_toList.symm.trans w_CLOSING.length.symm)) (by show 3 ≤ sizeLine; decide)), w_CLOSING⟩,
    ⟨_, v_CLOSING, rfl, rfl⟩,
    PySem.W.mg_of X G g_PARTS,
    fun _ => .inr ⟨_, _, _, v_PARTS, rfl, rfl, (Nat.le_trans (Nat.le_of_eq (Array.length_toList.symm.trans w_PARTS.length.symm)) (by show 2 ≤ sizeLine; decide)), w_PARTS⟩,
    ⟨_, v_PARTS, rfl, rfl⟩,
    PySem.W.mg_of X G g_ALIGNMENTS,
    fun _ => .inr ⟨_, _, _, v_ALIGNMENTS, rfl, rfl, (Nat.le_trans (Nat.le_of_eq (Array.length_toList.symm.trans w_ALIGNMENTS.length.symm)) (by show 5 ≤ sizeLine; decide)), w_ALIGNMENTS⟩,
    ⟨_, v_ALIGNMENTS, rfl, rfl⟩,
    PySem.W.mg_of X G g_SCOPES,
    fun _ => .inr ⟨_, _, _, v_SCOPES, rfl, rfl, (Nat.le_trans (Nat.le_of_eq (Array.length_toList.symm.trans w_SCOPES.length.symm)) (by show 4 ≤ sizeLine; decide)), w_SCOPES⟩,
    ⟨_, v_SCOPES, rfl, rfl⟩,
    ⟨_, PySem.W.mg_of X G g_MOST_ROWS⟩,
    ⟨_, PySem.W.mg_of X G g_MOST_PIECES⟩,
    ⟨_, PySem.W.mg_of X G g_MOST_OUTSIDE⟩,
    ⟨_, PySem.W.mg_of X G g_MOST_MEMBERS⟩,
    ⟨dl_CODE_ROWS, dk_CODE_ROWS, dw_CODE_ROWS⟩,
    fun z => ⟨_, nsIn_of dl_CODE_ROWS pe_CODE_ROWS z, find_rel (show Paired (fun (p : Str × List V) (q : Str × Value) => p.1 = q.1 ∧ RelTu K p.2 q.2) tb_CODE_ROWS [("put", Value.ref t_CODE_ROWS_put), ("name", Value.ref t_CODE_ROWS_name), ("add", Value.ref t_CODE_ROWS_add), ("take", Value.ref t_CODE_ROWS_take), ("load", Value.ref t_CODE_ROWS_load), ("store", Value.ref t_CODE_ROWS_store), ("jump", Value.ref t_CODE_ROWS_jump), ("ifzero", Value.ref t_CODE_ROWS_ifzero), ("call", Value.ref t_CODE_ROWS_call), ("callby", Value.ref t_CODE_ROWS_callby), ("back", Value.ref t_CODE_ROWS_back), ("out", Value.ref t_CODE_ROWS_out), ("halt", Value.ref t_CODE_ROWS_halt), ("room", Value.ref t_CODE_ROWS_room)] from (.cons ⟨rfl, ⟨t_CODE_ROWS_put, rfl, fun _ => .inr ⟨_, _, _, y_CODE_ROWS_put, rfl, rfl, (Nat.le_trans (Nat.le_of_eq (Array.length_toList.symm.trans u_CODE_ROWS_put.length.symm)) (by show 2 ≤ sizeLine; decide)), u_CODE_ROWS_put⟩⟩⟩ (.cons ⟨rfl, ⟨t_CODE_ROWS_name, rfl, fun _ => .inr ⟨_, _, _, y_CODE_ROWS_name, rfl, rfl, (Nat.le_trans (Nat.le_of_eq (Array.length_toList.symm.trans u_CODE_ROWS_name.length.symm)) (by show 2 ≤ sizeLine; decide)), u_CODE_ROWS_name⟩⟩⟩ (.cons ⟨rfl, ⟨t_CODE_ROWS_add, rfl, fun _ => .inr ⟨_, _, _, y_CODE_ROWS_add, rfl, rfl, (Nat.le_trans (Nat.le_of_eq (Array.length_toList.symm.trans u_CODE_ROWS_add.length.symm)) (by show 2 ≤ sizeLine; decide)), u_CODE_ROWS_add⟩⟩⟩ (.cons ⟨rfl, ⟨t_CODE_ROWS_take, rfl, fun _ => .inr ⟨_, _, _, y_CODE_ROWS_take, rfl, rfl, (Nat.le_trans (Nat.le_of_eq (Array.length_toList.symm.trans u_CODE_ROWS_take.length.symm)) (by show 2 ≤ sizeLine; decide)), u_CODE_ROWS_take⟩⟩⟩ (.cons ⟨rfl, ⟨t_CODE_ROWS_load, rfl, fun _ => .inr ⟨_, _, _, y_CODE_ROWS_load, rfl, rfl, (Nat.le_trans (Nat.le_of_eq (Array.length_toList.symm.trans u_CODE_ROWS_load.length.symm)) (by show 3 ≤ sizeLine; decide)), u_CODE_ROWS_load⟩⟩⟩ (.cons ⟨rfl, ⟨t_CODE_ROWS_store, rfl, fun _ => .inr ⟨_, _, _, y_CODE_ROWS_store, rfl, rfl, (Nat.le_trans (Nat.le_of_eq (Array.length_toList.symm.trans u_CODE_ROWS_store.length.symm)) (by show 3 ≤ sizeLine; decide)), u_CODE_ROWS_store⟩⟩⟩ (.cons ⟨rfl, ⟨t_CODE_ROWS_jump, rfl, fun _ => .inr ⟨_, _, _, y_CODE_ROWS_jump, rfl, rfl, (Nat.le_trans (Nat.le_of_eq (Array.length_toList.symm.trans u_CODE_ROWS_jump.length.symm)) (by show 1 ≤ sizeLine; decide)), u_CODE_ROWS_jump⟩⟩⟩ (.cons ⟨rfl, ⟨t_CODE_ROWS_ifzero, rfl, fun _ => .inr ⟨_, _, _, y_CODE_ROWS_ifzero, rfl, rfl, (Nat.le_trans (Nat.le_of_eq (Array.length_toList.symm.trans u_CODE_ROWS_ifzero.length.symm)) (by show 2 ≤ sizeLine; decide)), u_CODE_ROWS_ifzero⟩⟩⟩ (.cons ⟨rfl, ⟨t_CODE_ROWS_call, rfl, fun _ => .inr ⟨_, _, _, y_CODE_ROWS_call, rfl, rfl, (Nat.le_trans (Nat.le_of_eq (Array.length_toList.symm.trans u_CODE_ROWS_call.length.symm)) (by show 1 ≤ sizeLine; decide)), u_CODE_ROWS_call⟩⟩⟩ (.cons ⟨rfl, ⟨t_CODE_ROWS_callby, rfl, fun _ => .inr ⟨_, _, _, y_CODE_ROWS_callby, rfl, rfl, (Nat.le_trans (Nat.le_of_eq (Array.length_toList.symm.trans u_CODE_ROWS_callby.length.symm)) (by show 1 ≤ sizeLine; decide)), u_CODE_ROWS_callby⟩⟩⟩ (.cons ⟨rfl, ⟨t_CODE_ROWS_back, rfl, fun _ => .inr ⟨_, _, _, y_CODE_ROWS_back, rfl, rfl, (Nat.le_trans (Nat.le_of_eq (Array.length_toList.symm.trans u_CODE_ROWS_back.length.symm)) (by show 0 ≤ sizeLine; decide)), u_CODE_ROWS_back⟩⟩⟩ (.cons ⟨rfl, ⟨t_CODE_ROWS_out, rfl, fun _ => .inr ⟨_, _, _, y_CODE_ROWS_out, rfl, rfl, (Nat.le_trans (Nat.le_of_eq (Array.length_toList.symm.trans u_CODE_ROWS_out.length.symm)) (by show 1 ≤ sizeLine; decide)), u_CODE_ROWS_out⟩⟩⟩ (.cons ⟨rfl, ⟨t_CODE_ROWS_halt, rfl, fun _ => .inr ⟨_, _, _, y_CODE_ROWS_halt, rfl, rfl, (Nat.le_trans (Nat.le_of_eq (Array.length_toList.symm.trans u_CODE_ROWS_halt.length.symm)) (by show 0 ≤ sizeLine; decide)), u_CODE_ROWS_halt⟩⟩⟩ (.cons ⟨rfl, ⟨t_CODE_ROWS_room, rfl, fun _ => .inr ⟨_, _, _, y_CODE_ROWS_room, rfl, rfl, (Nat.le_trans (Nat.le_of_eq (Array.length_toList.symm.trans u_CODE_ROWS_room.length.symm)) (by show 1 ≤ sizeLine; decide)), u_CODE_ROWS_room⟩⟩⟩ .nil))))))))))))))) z⟩,
    ⟨dl_DATA_ROWS, dk_DATA_ROWS, dw_DATA_ROWS⟩,
    fun z => ⟨_, nsIn_of dl_DATA_ROWS pe_DATA_ROWS z, find_rel (show Paired (fun (p : Str × List V) (q : Str × Value) => p.1 = q.1 ∧ RelTu K p.2 q.2) tb_DATA_ROWS [("word", Value.ref t_DATA_ROWS_word), ("address", Value.ref t_DATA_ROWS_address), ("room", Value.ref t_DATA_ROWS_room)] from (.cons ⟨rfl, ⟨t_DATA_ROWS_word, rfl, fun _ => .inr ⟨_, _, _, y_DATA_ROWS_word, rfl, rfl, (Nat.le_trans (Nat.le_of_eq (Array.length_toList.symm.trans u_DATA_ROWS_word.length.symm)) (by show 1 ≤ sizeLine; decide)), u_DATA_ROWS_word⟩⟩⟩ (.cons ⟨rfl, ⟨t_DATA_ROWS_address, rfl, fun _ => .inr ⟨_, _, _, y_DATA_ROWS_address, rfl, rfl, (Nat.le_trans (Nat.le_of_eq (Array.length_toList.symm.trans u_DATA_ROWS_address.length.symm)) (by show 1 ≤ sizeLine; decide)), u_DATA_ROWS_address⟩⟩⟩ (.cons ⟨rfl, ⟨t_DATA_ROWS_room, rfl, fun _ => .inr ⟨_, _, _, y_DATA_ROWS_room, rfl, rfl, (Nat.le_trans (Nat.le_of_eq (Array.length_toList.symm.trans u_DATA_ROWS_room.length.symm)) (by show 1 ≤ sizeLine; decide)), u_DATA_ROWS_room⟩⟩⟩ .nil)))) z⟩,
    ⟨dl_BOUNDS, dk_BOUNDS, dw_BOUNDS⟩,
    fun z => ⟨_, nsIn_of dl_BOUNDS pe_BOUNDS z, find_rel (show Paired (fun (p : Str × List V) (q : Str × Value) => p.1 = q.1 ∧ RelTu K p.2 q.2) tb_BOUNDS [("n", Value.ref t_BOUNDS_n), ("d", Value.ref t_BOUNDS_d), ("k", Value.ref t_BOUNDS_k)] from (.cons ⟨rfl, ⟨t_BOUNDS_n, rfl, fun _ => .inr ⟨_, _, _, y_BOUNDS_n, rfl, rfl, (Nat.le_trans (Nat.le_of_eq (Array.length_toList.symm.trans u_BOUNDS_n.length.symm)) (by show 2 ≤ sizeLine; decide)), u_BOUNDS_n⟩⟩⟩ (.cons ⟨rfl, ⟨t_BOUNDS_d, rfl, fun _ => .inr ⟨_, _, _, y_BOUNDS_d, rfl, rfl, (Nat.le_trans (Nat.le_of_eq (Array.length_toList.symm.trans u_BOUNDS_d.length.symm)) (by show 2 ≤ sizeLine; decide)), u_BOUNDS_d⟩⟩⟩ (.cons ⟨rfl, ⟨t_BOUNDS_k, rfl, fun _ => .inr ⟨_, _, _, y_BOUNDS_k, rfl, rfl, (Nat.le_trans (Nat.le_of_eq (Array.length_toList.symm.trans u_BOUNDS_k.length.symm)) (by show 2 ≤ sizeLine; decide)), u_BOUNDS_k⟩⟩⟩ .nil)))) z⟩⟩
  have VE_InvalidName : ErrV K mg "InvalidName" "InvalidName.__init__" s_E_InvalidName E_InvalidName fi_InvalidName _ := ⟨PySem.W.mg_of X G eA_InvalidName, ⟨⟨_, _, _, _, _, _, _, _, _, _, _, _, _, _, _, eC_InvalidName, erf_InvalidName⟩, esa_InvalidName, eex_InvalidName, ety_InvalidName, ek_InvalidName⟩, ei_InvalidName, etI_InvalidName, _, _, _, _, _, _, _, _, _, _, _, _, el_InvalidName, rfl, ⟨eco_InvalidName, ⟨_, _, _, _, _, elc_InvalidName, ef_InvalidName⟩, ⟨_, _, _, ece_InvalidName⟩, ⟨_, ecl_InvalidName⟩, emr_InvalidName, PySem.W.mg_none_of X G nsS, ⟨_, rfl, rfl⟩, esI_InvalidName, eB_InvalidName, opq, emd_InvalidName⟩, PySem.F.excBase_ValueError⟩
  have VE_InvalidPart : ErrV K mg "InvalidPart" "InvalidPart.__init__" s_E_InvalidPart E_InvalidPart fi_InvalidPart _ := ⟨PySem.W.mg_of X G eA_InvalidPart, ⟨⟨_, _, _, _, _, _, _, _, _, _, _, _, _, _, _, eC_InvalidPart, erf_InvalidPart⟩, esa_InvalidPart, eex_InvalidPart, ety_InvalidPart, ek_InvalidPart⟩, ei_InvalidPart, etI_InvalidPart, _, _, _, _, _, _, _, _, _, _, _, _, el_InvalidPart, rfl, ⟨eco_InvalidPart, ⟨_, _, _, _, _, elc_InvalidPart, ef_InvalidPart⟩, ⟨_, _, _, ece_InvalidPart⟩, ⟨_, ecl_InvalidPart⟩, emr_InvalidPart, PySem.W.mg_none_of X G nsS, ⟨_, rfl, rfl⟩, esI_InvalidPart, eB_InvalidPart, opq, emd_InvalidPart⟩, PySem.F.excBase_ValueError⟩
  have VE_InvalidAlignment : ErrV K mg "InvalidAlignment" "InvalidAlignment.__init__" s_E_InvalidAlignment E_InvalidAlignment fi_InvalidAlignment _ := ⟨PySem.W.mg_of X G eA_InvalidAlignment, ⟨⟨_, _, _, _, _, _, _, _, _, _, _, _, _, _, _, eC_InvalidAlignment, erf_InvalidAlignment⟩, esa_InvalidAlignment, eex_InvalidAlignment, ety_InvalidAlignment, ek_InvalidAlignment⟩, ei_InvalidAlignment, etI_InvalidAlignment, _, _, _, _, _, _, _, _, _, _, _, _, el_InvalidAlignment, rfl, ⟨eco_InvalidAlignment, ⟨_, _, _, _, _, elc_InvalidAlignment, ef_InvalidAlignment⟩, ⟨_, _, _, ece_InvalidAlignment⟩, ⟨_, ecl_InvalidAlignment⟩, emr_InvalidAlignment, PySem.W.mg_none_of X G nsS, ⟨_, rfl, rfl⟩, esI_InvalidAlignment, eB_InvalidAlignment, opq, emd_InvalidAlignment⟩, PySem.F.excBase_ValueError⟩
  have VE_InvalidScope : ErrV K mg "InvalidScope" "InvalidScope.__init__" s_E_InvalidScope E_InvalidScope fi_InvalidScope _ := ⟨PySem.W.mg_of X G eA_InvalidScope, ⟨⟨_, _, _, _, _, _, _, _, _, _, _, _, _, _, _, eC_InvalidScope, erf_InvalidScope⟩, esa_InvalidScope, eex_InvalidScope, ety_InvalidScope, ek_InvalidScope⟩, ei_InvalidScope, etI_InvalidScope, _, _, _, _, _, _, _, _, _, _, _, _, el_InvalidScope, rfl, ⟨eco_InvalidScope, ⟨_, _, _, _, _, elc_InvalidScope, ef_InvalidScope⟩, ⟨_, _, _, ece_InvalidScope⟩, ⟨_, ecl_InvalidScope⟩, emr_InvalidScope, PySem.W.mg_none_of X G nsS, ⟨_, rfl, rfl⟩, esI_InvalidScope, eB_InvalidScope, opq, emd_InvalidScope⟩, PySem.F.excBase_ValueError⟩
  have VE_InvalidRow : ErrV K mg "InvalidRow" "InvalidRow.__init__" s_E_InvalidRow E_InvalidRow fi_InvalidRow _ := ⟨PySem.W.mg_of X G eA_InvalidRow, ⟨⟨_, _, _, _, _, _, _, _, _, _, _, _, _, _, _, eC_InvalidRow, erf_InvalidRow⟩, esa_InvalidRow, eex_InvalidRow, ety_InvalidRow, ek_InvalidRow⟩, ei_InvalidRow, etI_InvalidRow, _, _, _, _, _, _, _, _, _, _, _, _, el_InvalidRow, rfl, ⟨eco_InvalidRow, ⟨_, _, _, _, _, elc_InvalidRow, ef_InvalidRow⟩, ⟨_, _, _, ece_InvalidRow⟩, ⟨_, ecl_InvalidRow⟩, emr_InvalidRow, PySem.W.mg_none_of X G nsS, ⟨_, rfl, rfl⟩, esI_InvalidRow, eB_InvalidRow, opq, emd_InvalidRow⟩, PySem.F.excBase_ValueError⟩
  have VE_NotClosing : ErrV K mg "NotClosing" "NotClosing.__init__" s_E_NotClosing E_NotClosing fi_NotClosing _ := ⟨PySem.W.mg_of X G eA_NotClosing, ⟨⟨_, _, _, _, _, _, _, _, _, _, _, _, _, _, _, eC_NotClosing, erf_NotClosing⟩, esa_NotClosing, eex_NotClosing, ety_NotClosing, ek_NotClosing⟩, ei_NotClosing, etI_NotClosing, _, _, _, _, _, _, _, _, _, _, _, _, el_NotClosing, rfl, ⟨eco_NotClosing, ⟨_, _, _, _, _, elc_NotClosing, ef_NotClosing⟩, ⟨_, _, _, ece_NotClosing⟩, ⟨_, ecl_NotClosing⟩, emr_NotClosing, PySem.W.mg_none_of X G nsS, ⟨_, rfl, rfl⟩, esI_NotClosing, eB_NotClosing, opq, emd_NotClosing⟩, PySem.F.excBase_ValueError⟩
  have VE_InvalidPiece : ErrV K mg "InvalidPiece" "InvalidPiece.__init__" s_E_InvalidPiece E_InvalidPiece fi_InvalidPiece _ := ⟨PySem.W.mg_of X G eA_InvalidPiece, ⟨⟨_, _, _, _, _, _, _, _, _, _, _, _, _, _, _, eC_InvalidPiece, erf_InvalidPiece⟩, esa_InvalidPiece, eex_InvalidPiece, ety_InvalidPiece, ek_InvalidPiece⟩, ei_InvalidPiece, etI_InvalidPiece, _, _, _, _, _, _, _, _, _, _, _, _, el_InvalidPiece, rfl, ⟨eco_InvalidPiece, ⟨_, _, _, _, _, elc_InvalidPiece, ef_InvalidPiece⟩, ⟨_, _, _, ece_InvalidPiece⟩, ⟨_, ecl_InvalidPiece⟩, emr_InvalidPiece, PySem.W.mg_none_of X G nsS, ⟨_, rfl, rfl⟩, esI_InvalidPiece, eB_InvalidPiece, opq, emd_InvalidPiece⟩, PySem.F.excBase_ValueError⟩
  have VE_InvalidOutside : ErrV K mg "InvalidOutside" "InvalidOutside.__init__" s_E_InvalidOutside E_InvalidOutside fi_InvalidOutside _ := ⟨PySem.W.mg_of X G eA_InvalidOutside, ⟨⟨_, _, _, _, _, _, _, _, _, _, _, _, _, _, _, eC_InvalidOutside, erf_InvalidOutside⟩, esa_InvalidOutside, eex_InvalidOutside, ety_InvalidOutside, ek_InvalidOutside⟩, ei_InvalidOutside, etI_InvalidOutside, _, _, _, _, _, _, _, _, _, _, _, _, el_InvalidOutside, rfl, ⟨eco_InvalidOutside, ⟨_, _, _, _, _, elc_InvalidOutside, ef_InvalidOutside⟩, ⟨_, _, _, ece_InvalidOutside⟩, ⟨_, ecl_InvalidOutside⟩, emr_InvalidOutside, PySem.W.mg_none_of X G nsS, ⟨_, rfl, rfl⟩, esI_InvalidOutside, eB_InvalidOutside, opq, emd_InvalidOutside⟩, PySem.F.excBase_ValueError⟩
  have VE_InvalidMember : ErrV K mg "InvalidMember" "InvalidMember.__init__" s_E_InvalidMember E_InvalidMember fi_InvalidMember _ := ⟨PySem.W.mg_of X G eA_InvalidMember, ⟨⟨_, _, _, _, _, _, _, _, _, _, _, _, _, _, _, eC_InvalidMember, erf_InvalidMember⟩, esa_InvalidMember, eex_InvalidMember, ety_InvalidMember, ek_InvalidMember⟩, ei_InvalidMember, etI_InvalidMember, _, _, _, _, _, _, _, _, _, _, _, _, el_InvalidMember, rfl, ⟨eco_InvalidMember, ⟨_, _, _, _, _, elc_InvalidMember, ef_InvalidMember⟩, ⟨_, _, _, ece_InvalidMember⟩, ⟨_, ecl_InvalidMember⟩, emr_InvalidMember, PySem.W.mg_none_of X G nsS, ⟨_, rfl, rfl⟩, esI_InvalidMember, eB_InvalidMember, opq, emd_InvalidMember⟩, PySem.F.excBase_ValueError⟩
  have VE_DuplicateName : ErrV K mg "DuplicateName" "DuplicateName.__init__" s_E_DuplicateName E_DuplicateName fi_DuplicateName _ := ⟨PySem.W.mg_of X G eA_DuplicateName, ⟨⟨_, _, _, _, _, _, _, _, _, _, _, _, _, _, _, eC_DuplicateName, erf_DuplicateName⟩, esa_DuplicateName, eex_DuplicateName, ety_DuplicateName, ek_DuplicateName⟩, ei_DuplicateName, etI_DuplicateName, _, _, _, _, _, _, _, _, _, _, _, _, el_DuplicateName, rfl, ⟨eco_DuplicateName, ⟨_, _, _, _, _, elc_DuplicateName, ef_DuplicateName⟩, ⟨_, _, _, ece_DuplicateName⟩, ⟨_, ecl_DuplicateName⟩, emr_DuplicateName, PySem.W.mg_none_of X G nsS, ⟨_, rfl, rfl⟩, esI_DuplicateName, eB_DuplicateName, opq, emd_DuplicateName⟩, PySem.F.excBase_ValueError⟩
  have VE_TooMany : ErrV K mg "TooMany" "TooMany.__init__" s_E_TooMany E_TooMany fi_TooMany _ := ⟨PySem.W.mg_of X G eA_TooMany, ⟨⟨_, _, _, _, _, _, _, _, _, _, _, _, _, _, _, eC_TooMany, erf_TooMany⟩, esa_TooMany, eex_TooMany, ety_TooMany, ek_TooMany⟩, ei_TooMany, etI_TooMany, _, _, _, _, _, _, _, _, _, _, _, _, el_TooMany, rfl, ⟨eco_TooMany, ⟨_, _, _, _, _, elc_TooMany, ef_TooMany⟩, ⟨_, _, _, ece_TooMany⟩, ⟨_, ecl_TooMany⟩, emr_TooMany, PySem.W.mg_none_of X G nsS, ⟨_, rfl, rfl⟩, esI_TooMany, eB_TooMany, opq, emd_TooMany⟩, PySem.F.excBase_ValueError⟩
  have bI_InvalidName : L2.Binds K (PySem.W.ksFn "__init__" "InvalidName.__init__" (defArgs s_E_InvalidName) (defBody s_E_InvalidName) (defScope s_E_InvalidName) .none kV_InvalidName dc_InvalidName pm_InvalidName an_InvalidName (.ref cda_InvalidName) ct_InvalidName cl_InvalidName) ["self", "value"] [] := fun s us _ hl => match us, hl with | [_, _], _ => .of_eq rfl
  have bI_InvalidPart : L2.Binds K (PySem.W.ksFn "__init__" "InvalidPart.__init__" (defArgs s_E_InvalidPart) (defBody s_E_InvalidPart) (defScope s_E_InvalidPart) .none kV_InvalidPart dc_InvalidPart pm_InvalidPart an_InvalidPart (.ref cda_InvalidPart) ct_InvalidPart cl_InvalidPart) ["self", "value"] [] := fun s us _ hl => match us, hl with | [_, _], _ => .of_eq rfl
  have bI_InvalidAlignment : L2.Binds K (PySem.W.ksFn "__init__" "InvalidAlignment.__init__" (defArgs s_E_InvalidAlignment) (defBody s_E_InvalidAlignment) (defScope s_E_InvalidAlignment) .none kV_InvalidAlignment dc_InvalidAlignment pm_InvalidAlignment an_InvalidAlignment (.ref cda_InvalidAlignment) ct_InvalidAlignment cl_InvalidAlignment) ["self", "value"] [] := fun s us _ hl => match us, hl with | [_, _], _ => .of_eq rfl
  have bI_InvalidScope : L2.Binds K (PySem.W.ksFn "__init__" "InvalidScope.__init__" (defArgs s_E_InvalidScope) (defBody s_E_InvalidScope) (defScope s_E_InvalidScope) .none kV_InvalidScope dc_InvalidScope pm_InvalidScope an_InvalidScope (.ref cda_InvalidScope) ct_InvalidScope cl_InvalidScope) ["self", "value"] [] := fun s us _ hl => match us, hl with | [_, _], _ => .of_eq rfl
  have bI_InvalidRow : L2.Binds K (PySem.W.ksFn "__init__" "InvalidRow.__init__" (defArgs s_E_InvalidRow) (defBody s_E_InvalidRow) (defScope s_E_InvalidRow) .none kV_InvalidRow dc_InvalidRow pm_InvalidRow an_InvalidRow (.ref cda_InvalidRow) ct_InvalidRow cl_InvalidRow) ["self", "at"] [] := fun s us _ hl => match us, hl with | [_, _], _ => .of_eq rfl
  have bI_NotClosing : L2.Binds K (PySem.W.ksFn "__init__" "NotClosing.__init__" (defArgs s_E_NotClosing) (defBody s_E_NotClosing) (defScope s_E_NotClosing) .none kV_NotClosing dc_NotClosing pm_NotClosing an_NotClosing (.ref cda_NotClosing) ct_NotClosing cl_NotClosing) ["self"] [] := fun s us _ hl => match us, hl with | [_], _ => .of_eq rfl
  have bI_InvalidPiece : L2.Binds K (PySem.W.ksFn "__init__" "InvalidPiece.__init__" (defArgs s_E_InvalidPiece) (defBody s_E_InvalidPiece) (defScope s_E_InvalidPiece) .none kV_InvalidPiece dc_InvalidPiece pm_InvalidPiece an_InvalidPiece (.ref cda_InvalidPiece) ct_InvalidPiece cl_InvalidPiece) ["self", "at"] [] := fun s us _ hl => match us, hl with | [_, _], _ => .of_eq rfl
  have bI_InvalidOutside : L2.Binds K (PySem.W.ksFn "__init__" "InvalidOutside.__init__" (defArgs s_E_InvalidOutside) (defBody s_E_InvalidOutside) (defScope s_E_InvalidOutside) .none kV_InvalidOutside dc_InvalidOutside pm_InvalidOutside an_InvalidOutside (.ref cda_InvalidOutside) ct_InvalidOutside cl_InvalidOutside) ["self", "at"] [] := fun s us _ hl => match us, hl with | [_, _], _ => .of_eq rfl
  have bI_InvalidMember : L2.Binds K (PySem.W.ksFn "__init__" "InvalidMember.__init__" (defArgs s_E_InvalidMember) (defBody s_E_InvalidMember) (defScope s_E_InvalidMember) .none kV_InvalidMember dc_InvalidMember pm_InvalidMember an_InvalidMember (.ref cda_InvalidMember) ct_InvalidMember cl_InvalidMember) ["self", "at"] [] := fun s us _ hl => match us, hl with | [_, _], _ => .of_eq rfl
  have bI_DuplicateName : L2.Binds K (PySem.W.ksFn "__init__" "DuplicateName.__init__" (defArgs s_E_DuplicateName) (defBody s_E_DuplicateName) (defScope s_E_DuplicateName) .none kV_DuplicateName dc_DuplicateName pm_DuplicateName an_DuplicateName (.ref cda_DuplicateName) ct_DuplicateName cl_DuplicateName) ["self", "name"] [] := fun s us _ hl => match us, hl with | [_, _], _ => .of_eq rfl
  have bI_TooMany : L2.Binds K (PySem.W.ksFn "__init__" "TooMany.__init__" (defArgs s_E_TooMany) (defBody s_E_TooMany) (defScope s_E_TooMany) .none kV_TooMany dc_TooMany pm_TooMany an_TooMany (.ref cda_TooMany) ct_TooMany cl_TooMany) ["self", "most"] [] := fun s us _ hl => match us, hl with | [_, _], _ => .of_eq rfl
  have EC_InvalidName : EC K mg "InvalidName" "InvalidName.__init__" s_E_InvalidName ⟨E_InvalidName, "InvalidName", ["value"]⟩ fi_InvalidName _ := ⟨VE_InvalidName, bI_InvalidName, xfB_ok exf_InvalidName, en_InvalidName_code, (memc en_InvalidName_value mem0), _, _, PySem.W.mg_of X G eA_ImageError, PySem.W.mg_of X G eA_Missing, exm_InvalidName⟩
  have EC_InvalidPart : EC K mg "InvalidPart" "InvalidPart.__init__" s_E_InvalidPart ⟨E_InvalidPart, "InvalidPart", ["value"]⟩ fi_InvalidPart _ := ⟨VE_InvalidPart, bI_InvalidPart, xfB_ok exf_InvalidPart, en_InvalidPart_code, (memc en_InvalidPart_value mem0), _, _, PySem.W.mg_of X G eA_ImageError, PySem.W.mg_of X G eA_Missing, exm_InvalidPart⟩
  have EC_InvalidAlignment : EC K mg "InvalidAlignment" "InvalidAlignment.__init__" s_E_InvalidAlignment ⟨E_InvalidAlignment, "InvalidAlignment", ["value"]⟩ fi_InvalidAlignment _ := ⟨VE_InvalidAlignment, bI_InvalidAlignment, xfB_ok exf_InvalidAlignment, en_InvalidAlignment_code, (memc en_InvalidAlignment_value mem0), _, _, PySem.W.mg_of X G eA_ImageError, PySem.W.mg_of X G eA_Missing, exm_InvalidAlignment⟩
  have EC_InvalidScope : EC K mg "InvalidScope" "InvalidScope.__init__" s_E_InvalidScope ⟨E_InvalidScope, "InvalidScope", ["value"]⟩ fi_InvalidScope _ := ⟨VE_InvalidScope, bI_InvalidScope, xfB_ok exf_InvalidScope, en_InvalidScope_code, (memc en_InvalidScope_value mem0), _, _, PySem.W.mg_of X G eA_ImageError, PySem.W.mg_of X G eA_Missing, exm_InvalidScope⟩
  have EC_InvalidRow : EC K mg "InvalidRow" "InvalidRow.__init__" s_E_InvalidRow ⟨E_InvalidRow, "InvalidRow", ["at"]⟩ fi_InvalidRow _ := ⟨VE_InvalidRow, bI_InvalidRow, xfB_ok exf_InvalidRow, en_InvalidRow_code, (memc en_InvalidRow_at mem0), _, _, PySem.W.mg_of X G eA_ImageError, PySem.W.mg_of X G eA_Missing, exm_InvalidRow⟩
  have EC_NotClosing : EC K mg "NotClosing" "NotClosing.__init__" s_E_NotClosing ⟨E_NotClosing, "NotClosing", []⟩ fi_NotClosing _ := ⟨VE_NotClosing, bI_NotClosing, xfB_ok exf_NotClosing, en_NotClosing_code, mem0, _, _, PySem.W.mg_of X G eA_ImageError, PySem.W.mg_of X G eA_Missing, exm_NotClosing⟩
  have EC_InvalidPiece : EC K mg "InvalidPiece" "InvalidPiece.__init__" s_E_InvalidPiece ⟨E_InvalidPiece, "InvalidPiece", ["at"]⟩ fi_InvalidPiece _ := ⟨VE_InvalidPiece, bI_InvalidPiece, xfB_ok exf_InvalidPiece, en_InvalidPiece_code, (memc en_InvalidPiece_at mem0), _, _, PySem.W.mg_of X G eA_ImageError, PySem.W.mg_of X G eA_Missing, exm_InvalidPiece⟩
  have EC_InvalidOutside : EC K mg "InvalidOutside" "InvalidOutside.__init__" s_E_InvalidOutside ⟨E_InvalidOutside, "InvalidOutside", ["at"]⟩ fi_InvalidOutside _ := ⟨VE_InvalidOutside, bI_InvalidOutside, xfB_ok exf_InvalidOutside, en_InvalidOutside_code, (memc en_InvalidOutside_at mem0), _, _, PySem.W.mg_of X G eA_ImageError, PySem.W.mg_of X G eA_Missing, exm_InvalidOutside⟩
  have EC_InvalidMember : EC K mg "InvalidMember" "InvalidMember.__init__" s_E_InvalidMember ⟨E_InvalidMember, "InvalidMember", ["at"]⟩ fi_InvalidMember _ := ⟨VE_InvalidMember, bI_InvalidMember, xfB_ok exf_InvalidMember, en_InvalidMember_code, (memc en_InvalidMember_at mem0), _, _, PySem.W.mg_of X G eA_ImageError, PySem.W.mg_of X G eA_Missing, exm_InvalidMember⟩
  have EC_DuplicateName : EC K mg "DuplicateName" "DuplicateName.__init__" s_E_DuplicateName ⟨E_DuplicateName, "DuplicateName", ["name"]⟩ fi_DuplicateName _ := ⟨VE_DuplicateName, bI_DuplicateName, xfB_ok exf_DuplicateName, en_DuplicateName_code, (memc en_DuplicateName_name mem0), _, _, PySem.W.mg_of X G eA_ImageError, PySem.W.mg_of X G eA_Missing, exm_DuplicateName⟩
  have EC_TooMany : EC K mg "TooMany" "TooMany.__init__" s_E_TooMany ⟨E_TooMany, "TooMany", ["most"]⟩ fi_TooMany _ := ⟨VE_TooMany, bI_TooMany, xfB_ok exf_TooMany, en_TooMany_code, (memc en_TooMany_most mem0), _, _, PySem.W.mg_of X G eA_ImageError, PySem.W.mg_of X G eA_Missing, exm_TooMany⟩
  let TT : List (Addr × Str) := [(pp_law_full_so, QL "_law_full_so"), (pp_law_wide_so, QL "_law_wide_so"), (pp_law, QL "law")]
  have hTT : ∀ H : Hp, (∀ p ∈ [(cc_law_full_so, pp_law_full_so), (cc_law_wide_so, pp_law_wide_so), (cc_law, pp_law)], H p.2 = some (.tbl #[])) → Tabs TT H := fun H hH p hp => by
    rcases List.mem_cons.mp hp with rfl | hp
    · exact TabS.nil (hH (cc_law_full_so, pp_law_full_so) (by simp))
    rcases List.mem_cons.mp hp with rfl | hp
    · exact TabS.nil (hH (cc_law_wide_so, pp_law_wide_so) (by simp))
    rcases List.mem_cons.mp hp with rfl | hp
    · exact TabS.nil (hH (cc_law, pp_law) (by simp))
    cases hp
  have hm_law_full_so : (pp_law_full_so, QL "_law_full_so") ∈ TT := .head _
  have hu_law_full_so : ∀ p ∈ TT, p.1 = pp_law_full_so → p.2 = QL "_law_full_so" := fun p hp e => by
    rcases List.mem_cons.mp hp with rfl | hp
    · rfl
    rcases List.mem_cons.mp hp with rfl | hp
    · exact absurd e.symm dd_0_1
    rcases List.mem_cons.mp hp with rfl | hp
    · exact absurd e.symm dd_0_2
    cases hp
  have hm_law_wide_so : (pp_law_wide_so, QL "_law_wide_so") ∈ TT := .tail _ (.head _)
  have hu_law_wide_so : ∀ p ∈ TT, p.1 = pp_law_wide_so → p.2 = QL "_law_wide_so" := fun p hp e => by
    rcases List.mem_cons.mp hp with rfl | hp
    · exact absurd e dd_0_1
    rcases List.mem_cons.mp hp with rfl | hp
    · rfl
    rcases List.mem_cons.mp hp with rfl | hp
    · exact absurd e.symm dd_1_2
    cases hp
  have hm_law : (pp_law, QL "law") ∈ TT := .tail _ (.tail _ (.head _))
  have hu_law : ∀ p ∈ TT, p.1 = pp_law → p.2 = QL "law" := fun p hp e => by
    rcases List.mem_cons.mp hp with rfl | hp
    · exact absurd e dd_0_2
    rcases List.mem_cons.mp hp with rfl | hp
    · exact absurd e dd_1_2
    rcases List.mem_cons.mp hp with rfl | hp
    · rfl
    cases hp
  refine ⟨Z.d_law, [(cc_law_full_so, pp_law_full_so), (cc_law_wide_so, pp_law_wide_so), (cc_law, pp_law)], sp_law K TT, (fun p hp => by
    rcases List.mem_cons.mp hp with rfl | hp
    · exact tt_law_full_so
    rcases List.mem_cons.mp hp with rfl | hp
    · exact tt_law_wide_so
    rcases List.mem_cons.mp hp with rfl | hp
    · exact tt_law
    cases hp), (fun p hp => by
    rcases List.mem_cons.mp hp with rfl | hp
    · exact np_law_full_so
    rcases List.mem_cons.mp hp with rfl | hp
    · exact np_law_wide_so
    rcases List.mem_cons.mp hp with rfl | hp
    · exact np_law
    cases hp), (fun p hp => by
    rcases List.mem_cons.mp hp with rfl | hp
    · exact PySem.W.codeHd_of_K X hd_law_full_so
    rcases List.mem_cons.mp hp with rfl | hp
    · exact PySem.W.codeHd_of_K X hd_law_wide_so
    rcases List.mem_cons.mp hp with rfl | hp
    · exact PySem.W.codeHd_of_K X hd_law
    cases hp), fun s v => .of_eq rfl, fun H a ns hl _ hH hS => ⟨a, ns, rfl, hS, hl, hTT H hH, fun _ => rfl⟩, fun base KB _ hTB => ?_⟩
  exact ok_law (k := ⟨E_InvalidName, E_InvalidPiece, E_TooMany, E_DuplicateName, E_InvalidOutside⟩) (kb := E_InvalidMember) (ks := ⟨E_InvalidName, E_InvalidPart, E_InvalidAlignment, E_InvalidScope, E_InvalidRow, E_TooMany, E_NotClosing⟩) T ⟨⟨⟨PS, ⟨_, _, EC_DuplicateName⟩, ⟨_, _, EC_InvalidOutside⟩⟩, ⟨_, _, EC_InvalidName⟩, ⟨_, _, EC_InvalidPiece⟩, ⟨_, _, EC_TooMany⟩⟩, ⟨_, _, EC_InvalidMember⟩⟩ ⟨PS, ⟨_, _, EC_InvalidName⟩, ⟨_, _, EC_InvalidPart⟩, ⟨_, _, EC_InvalidAlignment⟩, ⟨_, _, EC_InvalidScope⟩, ⟨_, _, EC_InvalidRow⟩, ⟨_, _, EC_TooMany⟩, ⟨_, _, EC_NotClosing⟩⟩ rfl (hTB (cc_law_wide_so, pp_law_wide_so) (by simp)) hm_law_wide_so hu_law_wide_so rfl (hTB (cc_law_full_so, pp_law_full_so) (by simp)) hm_law_full_so hu_law_full_so rfl (hTB (cc_law, pp_law) (by simp)) hm_law hu_law
end Kk
open PySem PySem.W PyProof.Rows
set_option maxRecDepth 100000 in
set_option maxHeartbeats 0 in
theorem PySem.Challenge.cw_leastimage_k07_objects_and_archives_refu_holds : PySem.Challenge.rw_leastimage_k07_objects_and_archives_refu.Holds := by
  w_on; o_law; k_head; (case hw => w_witness2)
  k_fill
  refine LamX.walk_ofTs (l := PySem.Challenge.rw_leastimage_k07_objects_and_archives_refu) (n := 63) (k := 23) (x := "_law_script") (CX := fun _ => C8.CX0) rfl (by decide) rfl ⟨rfl, by decide, by decide⟩ (fun w h Y => PySem.W.km_in_of Y) ?F (fun _ _ _ _ _ h => h)
  case F =>
    intro w mg fa h Y KX G hmg
    have tabs := PySem.W.km_tabs_of Y
    refine' Kk.all_mkE ⟨by first | rfl | decide +kernel, by first | rfl | decide +kernel⟩ KX G hmg ?a_is_name ?l_is_name ?c_is_name ?k_is_name ?a_is_register ?l_is_register ?c_is_register ?k_is_register ?a_is_number ?l_is_number ?c_is_number ?k_is_number ?a_is_code_row ?l_is_code_row ?c_is_code_row ?k_is_code_row ?a_is_data_row ?l_is_data_row ?c_is_data_row ?k_is_data_row ?a_is_row_of ?l_is_row_of ?c_is_row_of ?k_is_row_of ?a_is_closing ?l_is_closing ?c_is_closing ?k_is_closing ?a_word_of ?l_word_of ?c_word_of ?k_word_of ?a_fit ?l_fit ?c_fit ?k_fit ?a_fits ?l_fits ?c_fits ?k_fits ?a_Piece___init__ ?i_Piece___init__ ?l_Piece___init__ ?c_Piece___init__ ?k_Piece___init__ ?kw_Piece___init___alignment ?kw_Piece___init___scope ?kw_Piece___init___keep ?a_is_part ?l_is_part ?c_is_part ?k_is_part ?a_is_alignment ?l_is_alignment ?c_is_alignment ?k_is_alignment ?a_is_scope_of ?l_is_scope_of ?c_is_scope_of ?k_is_scope_of ?a_ends_closing ?l_ends_closing ?c_ends_closing ?k_ends_closing ?a_check_rows ?l_check_rows ?c_check_rows ?k_check_rows ?a_Object___init__ ?i_Object___init__ ?l_Object___init__ ?c_Object___init__ ?k_Object___init__ ?kw_Object___init___outside ?ve_Object___init___outside ?we_Object___init___outside ?a_Object_pieces ?i_Object_pieces ?l_Object_pieces ?c_Object_pieces ?k_Object_pieces ?a_Object_outside ?i_Object_outside ?l_Object_outside ?c_Object_outside ?k_Object_outside ?a_Object_with_piece ?i_Object_with_piece ?l_Object_with_piece ?c_Object_with_piece ?k_Object_with_piece ?a_Object___contains__ ?i_Object___contains__ ?l_Object___contains__ ?c_Object___contains__ ?k_Object___contains__ ?a_Object___eq__ ?i_Object___eq__ ?l_Object___eq__ ?c_Object___eq__ ?k_Object___eq__ ?a_Object___len__ ?i_Object___len__ ?l_Object___len__ ?c_Object___len__ ?k_Object___len__ ?a_Object___repr__ ?i_Object___repr__ ?l_Object___repr__ ?c_Object___repr__ ?k_Object___repr__ ?a_Archive___init__ ?i_Archive___init__ ?l_Archive___init__ ?c_Archive___init__ ?k_Archive___init__ ?a_Archive___len__ ?i_Archive___len__ ?l_Archive___len__ ?c_Archive___len__ ?k_Archive___len__ ?a_wide_object ?l_wide_object ?c_wide_object ?k_wide_object ?a_check_object ?l_check_object ?c_check_object ?k_check_object ?a_check_names ?l_check_names ?c_check_names ?k_check_names ?a_check_outside ?l_check_outside ?c_check_outside ?k_check_outside ?a_names ?l_names ?c_names ?k_names ?a_law_bag ?l_law_bag ?c_law_bag ?k_law_bag ?a_law_draw ?l_law_draw ?c_law_draw ?k_law_draw ?a_law_of ?l_law_of ?c_law_of ?k_law_of ?a_law_some ?l_law_some ?c_law_some ?k_law_some ?a_law_mixed ?l_law_mixed ?c_law_mixed ?k_law_mixed ?a_law_same ?l_law_same ?c_law_same ?k_law_same ?a_law_field ?l_law_field ?c_law_field ?k_law_field ?a_law_try ?l_law_try ?c_law_try ?k_law_try ?a_law_why ?l_law_why ?c_law_why ?k_law_why ?a_law_whys ?l_law_whys ?c_law_whys ?k_law_whys ?a_law_odd ?l_law_odd ?c_law_odd ?k_law_odd ?a_law_titles ?l_law_titles ?c_law_titles ?k_law_titles ?a_law_is_title ?l_law_is_title ?c_law_is_title ?k_law_is_title ?a_law_outside_due ?l_law_outside_due ?c_law_outside_due ?k_law_outside_due ?a_law_object_due ?l_law_object_due ?c_law_object_due ?k_law_object_due ?a_law_archive_due ?l_law_archive_due ?c_law_archive_due ?k_law_archive_due ?a_law_small_piece ?l_law_small_piece ?c_law_small_piece ?k_law_small_piece ?a_law_full_so ?l_law_full_so ?c_law_full_so ?k_law_full_so ?a_law_wide_so ?l_law_wide_so ?c_law_wide_so ?k_law_wide_so ?a_law ?l_law ?c_law ?k_law ?aC_Piece ?pg_Piece ?hd_Piece ?po_Piece ?sa_Piece ?mkk_Piece ?kc_Piece ?nf_Piece_name ?nf_Piece_part ?nf_Piece_alignment ?nf_Piece_scope ?nf_Piece_keep ?nf_Piece__rows ?ha_Piece ?hn_Piece ?htk_Piece ?hm_Piece ?me_Piece ?ne_Piece ?it_Piece_NoneType ?it_Piece_bool ?it_Piece_int ?it_Piece_str ?it_Piece_list ?it_Piece_tuple ?aC_Object ?pg_Object ?hd_Object ?po_Object ?sa_Object ?mkk_Object ?kc_Object ?nf_Object_name ?nf_Object__pieces ?nf_Object__foreign ?ha_Object ?hn_Object ?htk_Object ?hm_Object ?me_Object ?ne_Object ?it_Object_NoneType ?it_Object_bool ?it_Object_int ?it_Object_str ?it_Object_list ?it_Object_tuple ?aC_Archive ?pg_Archive ?hd_Archive ?po_Archive ?sa_Archive ?mkk_Archive ?kc_Archive ?nf_Archive_name ?nf_Archive__members ?ha_Archive ?hn_Archive ?htk_Archive ?hm_Archive ?me_Archive ?ne_Archive ?it_Archive_NoneType ?it_Archive_bool ?it_Archive_int ?it_Archive_str ?it_Archive_list ?it_Archive_tuple ?ix_Object_Piece ?ix_Archive_Piece ?ix_Piece_Object ?ix_Archive_Object ?ix_Piece_Archive ?ix_Object_Archive ?n_abs ?n_all ?n_bool ?n_enumerate ?n_int ?n_isinstance ?n_len ?n_list ?n_range ?n_repr ?n_str ?n_tuple ?n_zip ?g_MOST_LETTERS ?g_REGISTERS ?v_REGISTERS ?w_REGISTERS ?g_CODE_ROWS ?g_DATA_ROWS ?g_BOUNDS ?g_CLOSING ?v_CLOSING ?w_CLOSING ?g_PARTS ?v_PARTS ?w_PARTS ?g_ALIGNMENTS ?v_ALIGNMENTS ?w_ALIGNMENTS ?g_SCOPES ?v_SCOPES ?w_SCOPES ?g_MOST_ROWS ?g_MOST_PIECES ?g_MOST_OUTSIDE ?g_MOST_MEMBERS ?dl_CODE_ROWS ?dk_CODE_ROWS ?dw_CODE_ROWS ?pe_CODE_ROWS ?y_CODE_ROWS_put ?u_CODE_ROWS_put ?y_CODE_ROWS_name ?u_CODE_ROWS_name ?y_CODE_ROWS_add ?u_CODE_ROWS_add ?y_CODE_ROWS_take ?u_CODE_ROWS_take ?y_CODE_ROWS_load ?u_CODE_ROWS_load ?y_CODE_ROWS_store ?u_CODE_ROWS_store ?y_CODE_ROWS_jump ?u_CODE_ROWS_jump ?y_CODE_ROWS_ifzero ?u_CODE_ROWS_ifzero ?y_CODE_ROWS_call ?u_CODE_ROWS_call ?y_CODE_ROWS_callby ?u_CODE_ROWS_callby ?y_CODE_ROWS_back ?u_CODE_ROWS_back ?y_CODE_ROWS_out ?u_CODE_ROWS_out ?y_CODE_ROWS_halt ?u_CODE_ROWS_halt ?y_CODE_ROWS_room ?u_CODE_ROWS_room ?dl_DATA_ROWS ?dk_DATA_ROWS ?dw_DATA_ROWS ?pe_DATA_ROWS ?y_DATA_ROWS_word ?u_DATA_ROWS_word ?y_DATA_ROWS_address ?u_DATA_ROWS_address ?y_DATA_ROWS_room ?u_DATA_ROWS_room ?dl_BOUNDS ?dk_BOUNDS ?dw_BOUNDS ?pe_BOUNDS ?y_BOUNDS_n ?u_BOUNDS_n ?y_BOUNDS_d ?u_BOUNDS_d ?y_BOUNDS_k ?u_BOUNDS_k ?lc_law_full_so ?tp_law_full_so ?hd_law_full_so ?np_law_full_so ?tt_law_full_so ?lc_law_wide_so ?tp_law_wide_so ?hd_law_wide_so ?np_law_wide_so ?tt_law_wide_so ?lc_law ?tp_law ?hd_law ?np_law ?tt_law ?dd_0_1 ?dd_0_2 ?dd_1_2 ?eA_ImageError ?eA_Missing ?eA_InvalidName ?eA_InvalidPart ?eA_InvalidAlignment ?eA_InvalidScope ?eA_InvalidRow ?eA_NotClosing ?eA_InvalidPiece ?eA_InvalidOutside ?eA_InvalidMember ?eA_DuplicateName ?eA_TooMany ?eA_UnknownName ?nsS ?opq ?ei_InvalidName ?el_InvalidName ?eco_InvalidName ?elc_InvalidName ?ef_InvalidName ?ece_InvalidName ?ecl_InvalidName ?eC_InvalidName ?erf_InvalidName ?esa_InvalidName ?eex_InvalidName ?ety_InvalidName ?ek_InvalidName ?emr_InvalidName ?esI_InvalidName ?eB_InvalidName ?etI_InvalidName ?emd_InvalidName ?exf_InvalidName ?en_InvalidName_value ?en_InvalidName_code ?ei_InvalidPart ?el_InvalidPart ?eco_InvalidPart ?elc_InvalidPart ?ef_InvalidPart ?ece_InvalidPart ?ecl_InvalidPart ?eC_InvalidPart ?erf_InvalidPart ?esa_InvalidPart ?eex_InvalidPart ?ety_InvalidPart ?ek_InvalidPart ?emr_InvalidPart ?esI_InvalidPart ?eB_InvalidPart ?etI_InvalidPart ?emd_InvalidPart ?exf_InvalidPart ?en_InvalidPart_value ?en_InvalidPart_code ?ei_InvalidAlignment ?el_InvalidAlignment ?eco_InvalidAlignment ?elc_InvalidAlignment ?ef_InvalidAlignment ?ece_InvalidAlignment ?ecl_InvalidAlignment ?eC_InvalidAlignment ?erf_InvalidAlignment ?esa_InvalidAlignment ?eex_InvalidAlignment ?ety_InvalidAlignment ?ek_InvalidAlignment ?emr_InvalidAlignment ?esI_InvalidAlignment ?eB_InvalidAlignment ?etI_InvalidAlignment ?emd_InvalidAlignment ?exf_InvalidAlignment ?en_InvalidAlignment_value ?en_InvalidAlignment_code ?ei_InvalidScope ?el_InvalidScope ?eco_InvalidScope ?elc_InvalidScope ?ef_InvalidScope ?ece_InvalidScope ?ecl_InvalidScope ?eC_InvalidScope ?erf_InvalidScope ?esa_InvalidScope ?eex_InvalidScope ?ety_InvalidScope ?ek_InvalidScope ?emr_InvalidScope ?esI_InvalidScope ?eB_InvalidScope ?etI_InvalidScope ?emd_InvalidScope ?exf_InvalidScope ?en_InvalidScope_value ?en_InvalidScope_code ?ei_InvalidRow ?el_InvalidRow ?eco_InvalidRow ?elc_InvalidRow ?ef_InvalidRow ?ece_InvalidRow ?ecl_InvalidRow ?eC_InvalidRow ?erf_InvalidRow ?esa_InvalidRow ?eex_InvalidRow ?ety_InvalidRow ?ek_InvalidRow ?emr_InvalidRow ?esI_InvalidRow ?eB_InvalidRow ?etI_InvalidRow ?emd_InvalidRow ?exf_InvalidRow ?en_InvalidRow_at ?en_InvalidRow_code ?ei_NotClosing ?el_NotClosing ?eco_NotClosing ?elc_NotClosing ?ef_NotClosing ?ece_NotClosing ?ecl_NotClosing ?eC_NotClosing ?erf_NotClosing ?esa_NotClosing ?eex_NotClosing ?ety_NotClosing ?ek_NotClosing ?emr_NotClosing ?esI_NotClosing ?eB_NotClosing ?etI_NotClosing ?emd_NotClosing ?exf_NotClosing ?en_NotClosing_code ?ei_InvalidPiece ?el_InvalidPiece ?eco_InvalidPiece ?elc_InvalidPiece ?ef_InvalidPiece ?ece_InvalidPiece ?ecl_InvalidPiece ?eC_InvalidPiece ?erf_InvalidPiece ?esa_InvalidPiece ?eex_InvalidPiece ?ety_InvalidPiece ?ek_InvalidPiece ?emr_InvalidPiece ?esI_InvalidPiece ?eB_InvalidPiece ?etI_InvalidPiece ?emd_InvalidPiece ?exf_InvalidPiece ?en_InvalidPiece_at ?en_InvalidPiece_code ?ei_InvalidOutside ?el_InvalidOutside ?eco_InvalidOutside ?elc_InvalidOutside ?ef_InvalidOutside ?ece_InvalidOutside ?ecl_InvalidOutside ?eC_InvalidOutside ?erf_InvalidOutside ?esa_InvalidOutside ?eex_InvalidOutside ?ety_InvalidOutside ?ek_InvalidOutside ?emr_InvalidOutside ?esI_InvalidOutside ?eB_InvalidOutside ?etI_InvalidOutside ?emd_InvalidOutside ?exf_InvalidOutside ?en_InvalidOutside_at ?en_InvalidOutside_code ?ei_InvalidMember ?el_InvalidMember ?eco_InvalidMember ?elc_InvalidMember ?ef_InvalidMember ?ece_InvalidMember ?ecl_InvalidMember ?eC_InvalidMember ?erf_InvalidMember ?esa_InvalidMember ?eex_InvalidMember ?ety_InvalidMember ?ek_InvalidMember ?emr_InvalidMember ?esI_InvalidMember ?eB_InvalidMember ?etI_InvalidMember ?emd_InvalidMember ?exf_InvalidMember ?en_InvalidMember_at ?en_InvalidMember_code ?ei_DuplicateName ?el_DuplicateName ?eco_DuplicateName ?elc_DuplicateName ?ef_DuplicateName ?ece_DuplicateName ?ecl_DuplicateName ?eC_DuplicateName ?erf_DuplicateName ?esa_DuplicateName ?eex_DuplicateName ?ety_DuplicateName ?ek_DuplicateName ?emr_DuplicateName ?esI_DuplicateName ?eB_DuplicateName ?etI_DuplicateName ?emd_DuplicateName ?exf_DuplicateName ?en_DuplicateName_name ?en_DuplicateName_code ?ei_TooMany ?el_TooMany ?eco_TooMany ?elc_TooMany ?ef_TooMany ?ece_TooMany ?ecl_TooMany ?eC_TooMany ?erf_TooMany ?esa_TooMany ?eex_TooMany ?ety_TooMany ?ek_TooMany ?emr_TooMany ?esI_TooMany ?eB_TooMany ?etI_TooMany ?emd_TooMany ?exf_TooMany ?en_TooMany_most ?en_TooMany_code ?exm_InvalidName ?exm_InvalidPart ?exm_InvalidAlignment ?exm_InvalidScope ?exm_InvalidRow ?exm_NotClosing ?exm_InvalidPiece ?exm_InvalidOutside ?exm_InvalidMember ?exm_DuplicateName ?exm_TooMany
    (case aC_Piece => k_is)
    (case aC_Object => k_is)
    (case aC_Archive => k_is)
    (case a_is_name => k_is)
    (case l_is_name => k_is)
    (case c_is_name => k_is)
    (case k_is_name => k_is)
    (case a_is_register => k_is)
    (case l_is_register => k_is)
    (case c_is_register => k_is)
    (case k_is_register => k_is)
    (case a_is_number => k_is)
    (case l_is_number => k_is)
    (case c_is_number => k_is)
    (case k_is_number => k_is)
    (case a_is_code_row => k_is)
    (case l_is_code_row => k_is)
    (case c_is_code_row => k_is)
    (case k_is_code_row => k_is)
    (case a_is_data_row => k_is)
    (case l_is_data_row => k_is)
    (case c_is_data_row => k_is)
    (case k_is_data_row => k_is)
    (case a_is_row_of => k_is)
    (case l_is_row_of => k_is)
    (case c_is_row_of => k_is)
    (case k_is_row_of => k_is)
    (case a_is_closing => k_is)
    (case l_is_closing => k_is)
    (case c_is_closing => k_is)
    (case k_is_closing => k_is)
    (case a_word_of => k_is)
    (case l_word_of => k_is)
    (case c_word_of => k_is)
    (case k_word_of => k_is)
    (case a_fit => k_is)
    (case l_fit => k_is)
    (case c_fit => k_is)
    (case k_fit => k_is)
    (case a_fits => k_is)
    (case l_fits => k_is)
    (case c_fits => k_is)
    (case k_fits => k_is)
    (case a_Piece___init__ => k_is)
    (case i_Piece___init__ => k_is)
    (case l_Piece___init__ => k_is)
    (case c_Piece___init__ => k_is)
    (case k_Piece___init__ => k_is)
    (case kw_Piece___init___alignment => k_is)
    (case kw_Piece___init___scope => k_is)
    (case kw_Piece___init___keep => k_is)
    (case a_is_part => k_is)
    (case l_is_part => k_is)
    (case c_is_part => k_is)
    (case k_is_part => k_is)
    (case a_is_alignment => k_is)
    (case l_is_alignment => k_is)
    (case c_is_alignment => k_is)
    (case k_is_alignment => k_is)
    (case a_is_scope_of => k_is)
    (case l_is_scope_of => k_is)
    (case c_is_scope_of => k_is)
    (case k_is_scope_of => k_is)
    (case a_ends_closing => k_is)
    (case l_ends_closing => k_is)
    (case c_ends_closing => k_is)
    (case k_ends_closing => k_is)
    (case a_check_rows => k_is)
    (case l_check_rows => k_is)
    (case c_check_rows => k_is)
    (case k_check_rows => k_is)
    (case a_Object___init__ => k_is)
    (case i_Object___init__ => k_is)
    (case l_Object___init__ => k_is)
    (case c_Object___init__ => k_is)
    (case k_Object___init__ => k_is)
    (case kw_Object___init___outside => k_is)
    (case ve_Object___init___outside => k_is)
    (case we_Object___init___outside => exact .nil)
    (case a_Object_pieces => k_is)
    (case i_Object_pieces => k_is)
    (case l_Object_pieces => k_is)
    (case c_Object_pieces => k_is)
    (case k_Object_pieces => k_is)
    (case a_Object_outside => k_is)
    (case i_Object_outside => k_is)
    (case l_Object_outside => k_is)
    (case c_Object_outside => k_is)
    (case k_Object_outside => k_is)
    (case a_Object_with_piece => k_is)
    (case i_Object_with_piece => k_is)
    (case l_Object_with_piece => k_is)
    (case c_Object_with_piece => k_is)
    (case k_Object_with_piece => k_is)
    (case a_Object___contains__ => k_is)
    (case i_Object___contains__ => k_is)
    (case l_Object___contains__ => k_is)
    (case c_Object___contains__ => k_is)
    (case k_Object___contains__ => k_is)
    (case a_Object___eq__ => k_is)
    (case i_Object___eq__ => k_is)
    (case l_Object___eq__ => k_is)
    (case c_Object___eq__ => k_is)
    (case k_Object___eq__ => k_is)
    (case a_Object___len__ => k_is)
    (case i_Object___len__ => k_is)
    (case l_Object___len__ => k_is)
    (case c_Object___len__ => k_is)
    (case k_Object___len__ => k_is)
    (case a_Object___repr__ => k_is)
    (case i_Object___repr__ => k_is)
    (case l_Object___repr__ => k_is)
    (case c_Object___repr__ => k_is)
    (case k_Object___repr__ => k_is)
    (case a_Archive___init__ => k_is)
    (case i_Archive___init__ => k_is)
    (case l_Archive___init__ => k_is)
    (case c_Archive___init__ => k_is)
    (case k_Archive___init__ => k_is)
    (case a_Archive___len__ => k_is)
    (case i_Archive___len__ => k_is)
    (case l_Archive___len__ => k_is)
    (case c_Archive___len__ => k_is)
    (case k_Archive___len__ => k_is)
    (case a_wide_object => k_is)
    (case l_wide_object => k_is)
    (case c_wide_object => k_is)
    (case k_wide_object => k_is)
    (case a_check_object => k_is)
    (case l_check_object => k_is)
    (case c_check_object => k_is)
    (case k_check_object => k_is)
    (case a_check_names => k_is)
    (case l_check_names => k_is)
    (case c_check_names => k_is)
    (case k_check_names => k_is)
    (case a_check_outside => k_is)
    (case l_check_outside => k_is)
    (case c_check_outside => k_is)
    (case k_check_outside => k_is)
    (case a_names => k_is)
    (case l_names => k_is)
    (case c_names => k_is)
    (case k_names => k_is)
    (case a_law_bag => k_is)
    (case l_law_bag => k_is)
    (case c_law_bag => k_is)
    (case k_law_bag => k_is)
    (case a_law_draw => k_is)
    (case l_law_draw => k_is)
    (case c_law_draw => k_is)
    (case k_law_draw => k_is)
    (case a_law_of => k_is)
    (case l_law_of => k_is)
    (case c_law_of => k_is)
    (case k_law_of => k_is)
    (case a_law_some => k_is)
    (case l_law_some => k_is)
    (case c_law_some => k_is)
    (case k_law_some => k_is)
    (case a_law_mixed => k_is)
    (case l_law_mixed => k_is)
    (case c_law_mixed => k_is)
    (case k_law_mixed => k_is)
    (case a_law_same => k_is)
    (case l_law_same => k_is)
    (case c_law_same => k_is)
    (case k_law_same => k_is)
    (case a_law_field => k_is)
    (case l_law_field => k_is)
    (case c_law_field => k_is)
    (case k_law_field => k_is)
    (case a_law_try => k_is)
    (case l_law_try => k_is)
    (case c_law_try => k_is)
    (case k_law_try => k_is)
    (case a_law_why => k_is)
    (case l_law_why => k_is)
    (case c_law_why => k_is)
    (case k_law_why => k_is)
    (case a_law_whys => k_is)
    (case l_law_whys => k_is)
    (case c_law_whys => k_is)
    (case k_law_whys => k_is)
    (case a_law_odd => k_is)
    (case l_law_odd => k_is)
    (case c_law_odd => k_is)
    (case k_law_odd => k_is)
    (case a_law_titles => k_is)
    (case l_law_titles => k_is)
    (case c_law_titles => k_is)
    (case k_law_titles => k_is)
    (case a_law_is_title => k_is)
    (case l_law_is_title => k_is)
    (case c_law_is_title => k_is)
    (case k_law_is_title => k_is)
    (case a_law_outside_due => k_is)
    (case l_law_outside_due => k_is)
    (case c_law_outside_due => k_is)
    (case k_law_outside_due => k_is)
    (case a_law_object_due => k_is)
    (case l_law_object_due => k_is)
    (case c_law_object_due => k_is)
    (case k_law_object_due => k_is)
    (case a_law_archive_due => k_is)
    (case l_law_archive_due => k_is)
    (case c_law_archive_due => k_is)
    (case k_law_archive_due => k_is)
    (case a_law_small_piece => k_is)
    (case l_law_small_piece => k_is)
    (case c_law_small_piece => k_is)
    (case k_law_small_piece => k_is)
    (case a_law_full_so => k_is)
    (case l_law_full_so => k_is)
    (case c_law_full_so => k_is)
    (case k_law_full_so => k_is)
    (case a_law_wide_so => k_is)
    (case l_law_wide_so => k_is)
    (case c_law_wide_so => k_is)
    (case k_law_wide_so => k_is)
    (case a_law => k_is)
    (case l_law => k_is)
    (case c_law => k_is)
    (case k_law => k_is)
    (case pg_Piece => k_is)
    (case hd_Piece => k_is)
    (case po_Piece => k_is)
    (case sa_Piece => k_is)
    (case mkk_Piece => k_is)
    (case kc_Piece => k_is)
    (case nf_Piece_name => k_is)
    (case nf_Piece_part => k_is)
    (case nf_Piece_alignment => k_is)
    (case nf_Piece_scope => k_is)
    (case nf_Piece_keep => k_is)
    (case nf_Piece__rows => k_is)
    (case ha_Piece => k_is)
    (case hn_Piece => k_is)
    (case htk_Piece => k_is)
    (case hm_Piece => k_is)
    (case me_Piece => kit_is)
    (case ne_Piece => k_is)
    (case it_Piece_NoneType => kit_is)
    (case it_Piece_bool => kit_is)
    (case it_Piece_int => kit_is)
    (case it_Piece_str => kit_is)
    (case it_Piece_list => kit_is)
    (case it_Piece_tuple => kit_is)
    (case pg_Object => k_is)
    (case hd_Object => k_is)
    (case po_Object => k_is)
    (case sa_Object => k_is)
    (case mkk_Object => k_is)
    (case kc_Object => k_is)
    (case nf_Object_name => k_is)
    (case nf_Object__pieces => k_is)
    (case nf_Object__foreign => k_is)
    (case ha_Object => k_is)
    (case hn_Object => k_is)
    (case htk_Object => k_is)
    (case hm_Object => k_is)
    (case me_Object => kit_is)
    (case ne_Object => k_is)
    (case it_Object_NoneType => kit_is)
    (case it_Object_bool => kit_is)
    (case it_Object_int => kit_is)
    (case it_Object_str => kit_is)
    (case it_Object_list => kit_is)
    (case it_Object_tuple => kit_is)
    (case pg_Archive => k_is)
    (case hd_Archive => k_is)
    (case po_Archive => k_is)
    (case sa_Archive => k_is)
    (case mkk_Archive => k_is)
    (case kc_Archive => k_is)
    (case nf_Archive_name => k_is)
    (case nf_Archive__members => k_is)
    (case ha_Archive => k_is)
    (case hn_Archive => k_is)
    (case htk_Archive => k_is)
    (case hm_Archive => k_is)
    (case me_Archive => kit_is)
    (case ne_Archive => k_is)
    (case it_Archive_NoneType => kit_is)
    (case it_Archive_bool => kit_is)
    (case it_Archive_int => kit_is)
    (case it_Archive_str => kit_is)
    (case it_Archive_list => kit_is)
    (case it_Archive_tuple => kit_is)
    (case ix_Object_Piece => kit_is)
    (case ix_Archive_Piece => kit_is)
    (case ix_Piece_Object => kit_is)
    (case ix_Archive_Object => kit_is)
    (case ix_Piece_Archive => kit_is)
    (case ix_Object_Archive => kit_is)
    (case n_abs => k_is)
    (case n_all => k_is)
    (case n_bool => k_is)
    (case n_enumerate => k_is)
    (case n_int => k_is)
    (case n_isinstance => k_is)
    (case n_len => k_is)
    (case n_list => k_is)
    (case n_range => k_is)
    (case n_repr => k_is)
    (case n_str => k_is)
    (case n_tuple => k_is)
    (case n_zip => k_is)
    (case g_MOST_LETTERS => k_is)
    (case g_REGISTERS => k_is)
    (case v_REGISTERS => k_is)
    (case w_REGISTERS => exact (.cons ⟨_, rfl⟩ (.cons ⟨_, rfl⟩ (.cons ⟨_, rfl⟩ .nil))))
    (case g_CODE_ROWS => k_is)
    (case g_DATA_ROWS => k_is)
    (case g_BOUNDS => k_is)
    (case g_CLOSING => k_is)
    (case v_CLOSING => k_is)
    (case w_CLOSING => exact (.cons ⟨_, rfl⟩ (.cons ⟨_, rfl⟩ (.cons ⟨_, rfl⟩ .nil))))
    (case g_PARTS => k_is)
    (case v_PARTS => k_is)
    (case w_PARTS => exact (.cons ⟨_, rfl⟩ (.cons ⟨_, rfl⟩ .nil)))
    (case g_ALIGNMENTS => k_is)
    (case v_ALIGNMENTS => k_is)
    (case w_ALIGNMENTS => exact (.cons ⟨_, rfl⟩ (.cons ⟨_, rfl⟩ (.cons ⟨_, rfl⟩ (.cons ⟨_, rfl⟩ (.cons ⟨_, rfl⟩ .nil))))))
    (case g_SCOPES => k_is)
    (case v_SCOPES => k_is)
    (case w_SCOPES => exact (.cons ⟨_, rfl⟩ (.cons ⟨_, rfl⟩ (.cons ⟨_, rfl⟩ (.cons ⟨_, rfl⟩ .nil)))))
    (case g_MOST_ROWS => k_is)
    (case g_MOST_PIECES => k_is)
    (case g_MOST_OUTSIDE => k_is)
    (case g_MOST_MEMBERS => k_is)
    (case dl_CODE_ROWS => k_is)
    (case dk_CODE_ROWS => repeat (first | exact trivial | refine ⟨⟨_, _, rfl, rfl⟩, ?_⟩))
    (case dw_CODE_ROWS => first | rfl | decide +kernel)
    (case pe_CODE_ROWS => exact (.cons ⟨⟨_, rfl⟩, rfl⟩ (.cons ⟨⟨_, rfl⟩, rfl⟩ (.cons ⟨⟨_, rfl⟩, rfl⟩ (.cons ⟨⟨_, rfl⟩, rfl⟩ (.cons ⟨⟨_, rfl⟩, rfl⟩ (.cons ⟨⟨_, rfl⟩, rfl⟩ (.cons ⟨⟨_, rfl⟩, rfl⟩ (.cons ⟨⟨_, rfl⟩, rfl⟩ (.cons ⟨⟨_, rfl⟩, rfl⟩ (.cons ⟨⟨_, rfl⟩, rfl⟩ (.cons ⟨⟨_, rfl⟩, rfl⟩ (.cons ⟨⟨_, rfl⟩, rfl⟩ (.cons ⟨⟨_, rfl⟩, rfl⟩ (.cons ⟨⟨_, rfl⟩, rfl⟩ .nil)))))))))))))))
    (case y_CODE_ROWS_put => k_is)
    (case u_CODE_ROWS_put => exact (.cons ⟨_, rfl⟩ (.cons ⟨_, rfl⟩ .nil)))
    (case y_CODE_ROWS_name => k_is)
    (case u_CODE_ROWS_name => exact (.cons ⟨_, rfl⟩ (.cons ⟨_, rfl⟩ .nil)))
    (case y_CODE_ROWS_add => k_is)
    (case u_CODE_ROWS_add => exact (.cons ⟨_, rfl⟩ (.cons ⟨_, rfl⟩ .nil)))
    (case y_CODE_ROWS_take => k_is)
    (case u_CODE_ROWS_take => exact (.cons ⟨_, rfl⟩ (.cons ⟨_, rfl⟩ .nil)))
    (case y_CODE_ROWS_load => k_is)
    (case u_CODE_ROWS_load => exact (.cons ⟨_, rfl⟩ (.cons ⟨_, rfl⟩ (.cons ⟨_, rfl⟩ .nil))))
    (case y_CODE_ROWS_store => k_is)
    (case u_CODE_ROWS_store => exact (.cons ⟨_, rfl⟩ (.cons ⟨_, rfl⟩ (.cons ⟨_, rfl⟩ .nil))))
    (case y_CODE_ROWS_jump => k_is)
    (case u_CODE_ROWS_jump => exact (.cons ⟨_, rfl⟩ .nil))
    (case y_CODE_ROWS_ifzero => k_is)
    (case u_CODE_ROWS_ifzero => exact (.cons ⟨_, rfl⟩ (.cons ⟨_, rfl⟩ .nil)))
    (case y_CODE_ROWS_call => k_is)
    (case u_CODE_ROWS_call => exact (.cons ⟨_, rfl⟩ .nil))
    (case y_CODE_ROWS_callby => k_is)
    (case u_CODE_ROWS_callby => exact (.cons ⟨_, rfl⟩ .nil))
    (case y_CODE_ROWS_back => k_is)
    (case u_CODE_ROWS_back => exact .nil)
    (case y_CODE_ROWS_out => k_is)
    (case u_CODE_ROWS_out => exact (.cons ⟨_, rfl⟩ .nil))
    (case y_CODE_ROWS_halt => k_is)
    (case u_CODE_ROWS_halt => exact .nil)
    (case y_CODE_ROWS_room => k_is)
    (case u_CODE_ROWS_room => exact (.cons ⟨_, rfl⟩ .nil))
    (case dl_DATA_ROWS => k_is)
    (case dk_DATA_ROWS => repeat (first | exact trivial | refine ⟨⟨_, _, rfl, rfl⟩, ?_⟩))
    (case dw_DATA_ROWS => first | rfl | decide +kernel)
    (case pe_DATA_ROWS => exact (.cons ⟨⟨_, rfl⟩, rfl⟩ (.cons ⟨⟨_, rfl⟩, rfl⟩ (.cons ⟨⟨_, rfl⟩, rfl⟩ .nil))))
    (case y_DATA_ROWS_word => k_is)
    (case u_DATA_ROWS_word => exact (.cons ⟨_, rfl⟩ .nil))
    (case y_DATA_ROWS_address => k_is)
    (case u_DATA_ROWS_address => exact (.cons ⟨_, rfl⟩ .nil))
    (case y_DATA_ROWS_room => k_is)
    (case u_DATA_ROWS_room => exact (.cons ⟨_, rfl⟩ .nil))
    (case dl_BOUNDS => k_is)
    (case dk_BOUNDS => repeat (first | exact trivial | refine ⟨⟨_, _, rfl, rfl⟩, ?_⟩))
    (case dw_BOUNDS => first | rfl | decide +kernel)
    (case pe_BOUNDS => exact (.cons ⟨⟨_, rfl⟩, rfl⟩ (.cons ⟨⟨_, rfl⟩, rfl⟩ (.cons ⟨⟨_, rfl⟩, rfl⟩ .nil))))
    (case y_BOUNDS_n => k_is)
    (case u_BOUNDS_n => exact (.cons ⟨_, rfl⟩ (.cons ⟨_, rfl⟩ .nil)))
    (case y_BOUNDS_d => k_is)
    (case u_BOUNDS_d => exact (.cons ⟨_, rfl⟩ (.cons ⟨_, rfl⟩ .nil)))
    (case y_BOUNDS_k => k_is)
    (case u_BOUNDS_k => exact (.cons ⟨_, rfl⟩ (.cons ⟨_, rfl⟩ .nil)))
    (case lc_law_full_so => k_is)
    (case tp_law_full_so => exact rfl)
    (case hd_law_full_so => kernel_rfl)
    (case np_law_full_so => kernel_rfl)
    (case tt_law_full_so => exact tabs _ (by k_mem))
    (case lc_law_wide_so => k_is)
    (case tp_law_wide_so => exact rfl)
    (case hd_law_wide_so => kernel_rfl)
    (case np_law_wide_so => kernel_rfl)
    (case tt_law_wide_so => exact tabs _ (by k_mem))
    (case lc_law => k_is)
    (case tp_law => exact rfl)
    (case hd_law => kernel_rfl)
    (case np_law => kernel_rfl)
    (case tt_law => exact tabs _ (by k_mem))
    (case dd_0_1 => decide)
    (case dd_0_2 => decide)
    (case dd_1_2 => decide)
    (case eA_ImageError => k_is)
    (case eA_Missing => k_is)
    (case eA_InvalidName => k_is)
    (case eA_InvalidPart => k_is)
    (case eA_InvalidAlignment => k_is)
    (case eA_InvalidScope => k_is)
    (case eA_InvalidRow => k_is)
    (case eA_NotClosing => k_is)
    (case eA_InvalidPiece => k_is)
    (case eA_InvalidOutside => k_is)
    (case eA_InvalidMember => k_is)
    (case eA_DuplicateName => k_is)
    (case eA_TooMany => k_is)
    (case eA_UnknownName => k_is)
    (case nsS => k_is)
    (case opq => k_is)
    (case ei_InvalidName => k_is)
    (case el_InvalidName => k_is)
    (case eco_InvalidName => k_is)
    (case elc_InvalidName => k_is)
    (case ef_InvalidName => exact rfl)
    (case ece_InvalidName => k_is)
    (case ecl_InvalidName => k_is)
    (case eC_InvalidName => k_is)
    (case erf_InvalidName => kernel_rfl)
    (case esa_InvalidName => k_is)
    (case eex_InvalidName => k_is)
    (case ety_InvalidName => k_is)
    (case ek_InvalidName => k_is)
    (case emr_InvalidName => k_is)
    (case esI_InvalidName => ks_is)
    (case eB_InvalidName => k_is)
    (case etI_InvalidName => k_is)
    (case emd_InvalidName => kx_is)
    (case exf_InvalidName => kernel_rfl)
    (case en_InvalidName_value => k_is)
    (case en_InvalidName_code => k_is)
    (case ei_InvalidPart => k_is)
    (case el_InvalidPart => k_is)
    (case eco_InvalidPart => k_is)
    (case elc_InvalidPart => k_is)
    (case ef_InvalidPart => exact rfl)
    (case ece_InvalidPart => k_is)
    (case ecl_InvalidPart => k_is)
    (case eC_InvalidPart => k_is)
    (case erf_InvalidPart => kernel_rfl)
    (case esa_InvalidPart => k_is)
    (case eex_InvalidPart => k_is)
    (case ety_InvalidPart => k_is)
    (case ek_InvalidPart => k_is)
    (case emr_InvalidPart => k_is)
    (case esI_InvalidPart => ks_is)
    (case eB_InvalidPart => k_is)
    (case etI_InvalidPart => k_is)
    (case emd_InvalidPart => kx_is)
    (case exf_InvalidPart => kernel_rfl)
    (case en_InvalidPart_value => k_is)
    (case en_InvalidPart_code => k_is)
    (case ei_InvalidAlignment => k_is)
    (case el_InvalidAlignment => k_is)
    (case eco_InvalidAlignment => k_is)
    (case elc_InvalidAlignment => k_is)
    (case ef_InvalidAlignment => exact rfl)
    (case ece_InvalidAlignment => k_is)
    (case ecl_InvalidAlignment => k_is)
    (case eC_InvalidAlignment => k_is)
    (case erf_InvalidAlignment => kernel_rfl)
    (case esa_InvalidAlignment => k_is)
    (case eex_InvalidAlignment => k_is)
    (case ety_InvalidAlignment => k_is)
    (case ek_InvalidAlignment => k_is)
    (case emr_InvalidAlignment => k_is)
    (case esI_InvalidAlignment => ks_is)
    (case eB_InvalidAlignment => k_is)
    (case etI_InvalidAlignment => k_is)
    (case emd_InvalidAlignment => kx_is)
    (case exf_InvalidAlignment => kernel_rfl)
    (case en_InvalidAlignment_value => k_is)
    (case en_InvalidAlignment_code => k_is)
    (case ei_InvalidScope => k_is)
    (case el_InvalidScope => k_is)
    (case eco_InvalidScope => k_is)
    (case elc_InvalidScope => k_is)
    (case ef_InvalidScope => exact rfl)
    (case ece_InvalidScope => k_is)
    (case ecl_InvalidScope => k_is)
    (case eC_InvalidScope => k_is)
    (case erf_InvalidScope => kernel_rfl)
    (case esa_InvalidScope => k_is)
    (case eex_InvalidScope => k_is)
    (case ety_InvalidScope => k_is)
    (case ek_InvalidScope => k_is)
    (case emr_InvalidScope => k_is)
    (case esI_InvalidScope => ks_is)
    (case eB_InvalidScope => k_is)
    (case etI_InvalidScope => k_is)
    (case emd_InvalidScope => kx_is)
    (case exf_InvalidScope => kernel_rfl)
    (case en_InvalidScope_value => k_is)
    (case en_InvalidScope_code => k_is)
    (case ei_InvalidRow => k_is)
    (case el_InvalidRow => k_is)
    (case eco_InvalidRow => k_is)
    (case elc_InvalidRow => k_is)
    (case ef_InvalidRow => exact rfl)
    (case ece_InvalidRow => k_is)
    (case ecl_InvalidRow => k_is)
    (case eC_InvalidRow => k_is)
    (case erf_InvalidRow => kernel_rfl)
    (case esa_InvalidRow => k_is)
    (case eex_InvalidRow => k_is)
    (case ety_InvalidRow => k_is)
    (case ek_InvalidRow => k_is)
    (case emr_InvalidRow => k_is)
    (case esI_InvalidRow => ks_is)
    (case eB_InvalidRow => k_is)
    (case etI_InvalidRow => k_is)
    (case emd_InvalidRow => kx_is)
    (case exf_InvalidRow => kernel_rfl)
    (case en_InvalidRow_at => k_is)
    (case en_InvalidRow_code => k_is)
    (case ei_NotClosing => k_is)
    (case el_NotClosing => k_is)
    (case eco_NotClosing => k_is)
    (case elc_NotClosing => k_is)
    (case ef_NotClosing => exact rfl)
    (case ece_NotClosing => k_is)
    (case ecl_NotClosing => k_is)
    (case eC_NotClosing => k_is)
    (case erf_NotClosing => kernel_rfl)
    (case esa_NotClosing => k_is)
    (case eex_NotClosing => k_is)
    (case ety_NotClosing => k_is)
    (case ek_NotClosing => k_is)
    (case emr_NotClosing => k_is)
    (case esI_NotClosing => ks_is)
    (case eB_NotClosing => k_is)
    (case etI_NotClosing => k_is)
    (case emd_NotClosing => kx_is)
    (case exf_NotClosing => kernel_rfl)
    (case en_NotClosing_code => k_is)
    (case ei_InvalidPiece => k_is)
    (case el_InvalidPiece => k_is)
    (case eco_InvalidPiece => k_is)
    (case elc_InvalidPiece => k_is)
    (case ef_InvalidPiece => exact rfl)
    (case ece_InvalidPiece => k_is)
    (case ecl_InvalidPiece => k_is)
    (case eC_InvalidPiece => k_is)
    (case erf_InvalidPiece => kernel_rfl)
    (case esa_InvalidPiece => k_is)
    (case eex_InvalidPiece => k_is)
    (case ety_InvalidPiece => k_is)
    (case ek_InvalidPiece => k_is)
    (case emr_InvalidPiece => k_is)
    (case esI_InvalidPiece => ks_is)
    (case eB_InvalidPiece => k_is)
    (case etI_InvalidPiece => k_is)
    (case emd_InvalidPiece => kx_is)
    (case exf_InvalidPiece => kernel_rfl)
    (case en_InvalidPiece_at => k_is)
    (case en_InvalidPiece_code => k_is)
    (case ei_InvalidOutside => k_is)
    (case el_InvalidOutside => k_is)
    (case eco_InvalidOutside => k_is)
    (case elc_InvalidOutside => k_is)
    (case ef_InvalidOutside => exact rfl)
    (case ece_InvalidOutside => k_is)
    (case ecl_InvalidOutside => k_is)
    (case eC_InvalidOutside => k_is)
    (case erf_InvalidOutside => kernel_rfl)
    (case esa_InvalidOutside => k_is)
    (case eex_InvalidOutside => k_is)
    (case ety_InvalidOutside => k_is)
    (case ek_InvalidOutside => k_is)
    (case emr_InvalidOutside => k_is)
    (case esI_InvalidOutside => ks_is)
    (case eB_InvalidOutside => k_is)
    (case etI_InvalidOutside => k_is)
    (case emd_InvalidOutside => kx_is)
    (case exf_InvalidOutside => kernel_rfl)
    (case en_InvalidOutside_at => k_is)
    (case en_InvalidOutside_code => k_is)
    (case ei_InvalidMember => k_is)
    (case el_InvalidMember => k_is)
    (case eco_InvalidMember => k_is)
    (case elc_InvalidMember => k_is)
    (case ef_InvalidMember => exact rfl)
    (case ece_InvalidMember => k_is)
    (case ecl_InvalidMember => k_is)
    (case eC_InvalidMember => k_is)
    (case erf_InvalidMember => kernel_rfl)
    (case esa_InvalidMember => k_is)
    (case eex_InvalidMember => k_is)
    (case ety_InvalidMember => k_is)
    (case ek_InvalidMember => k_is)
    (case emr_InvalidMember => k_is)
    (case esI_InvalidMember => ks_is)
    (case eB_InvalidMember => k_is)
    (case etI_InvalidMember => k_is)
    (case emd_InvalidMember => kx_is)
    (case exf_InvalidMember => kernel_rfl)
    (case en_InvalidMember_at => k_is)
    (case en_InvalidMember_code => k_is)
    (case ei_DuplicateName => k_is)
    (case el_DuplicateName => k_is)
    (case eco_DuplicateName => k_is)
    (case elc_DuplicateName => k_is)
    (case ef_DuplicateName => exact rfl)
    (case ece_DuplicateName => k_is)
    (case ecl_DuplicateName => k_is)
    (case eC_DuplicateName => k_is)
    (case erf_DuplicateName => kernel_rfl)
    (case esa_DuplicateName => k_is)
    (case eex_DuplicateName => k_is)
    (case ety_DuplicateName => k_is)
    (case ek_DuplicateName => k_is)
    (case emr_DuplicateName => k_is)
    (case esI_DuplicateName => ks_is)
    (case eB_DuplicateName => k_is)
    (case etI_DuplicateName => k_is)
    (case emd_DuplicateName => kx_is)
    (case exf_DuplicateName => kernel_rfl)
    (case en_DuplicateName_name => k_is)
    (case en_DuplicateName_code => k_is)
    (case ei_TooMany => k_is)
    (case el_TooMany => k_is)
    (case eco_TooMany => k_is)
    (case elc_TooMany => k_is)
    (case ef_TooMany => exact rfl)
    (case ece_TooMany => k_is)
    (case ecl_TooMany => k_is)
    (case eC_TooMany => k_is)
    (case erf_TooMany => kernel_rfl)
    (case esa_TooMany => k_is)
    (case eex_TooMany => k_is)
    (case ety_TooMany => k_is)
    (case ek_TooMany => k_is)
    (case emr_TooMany => k_is)
    (case esI_TooMany => ks_is)
    (case eB_TooMany => k_is)
    (case etI_TooMany => k_is)
    (case emd_TooMany => kx_is)
    (case exf_TooMany => kernel_rfl)
    (case en_TooMany_most => k_is)
    (case en_TooMany_code => k_is)
    (case exm_InvalidName => kernel_rfl)
    (case exm_InvalidPart => kernel_rfl)
    (case exm_InvalidAlignment => kernel_rfl)
    (case exm_InvalidScope => kernel_rfl)
    (case exm_InvalidRow => kernel_rfl)
    (case exm_NotClosing => kernel_rfl)
    (case exm_InvalidPiece => kernel_rfl)
    (case exm_InvalidOutside => kernel_rfl)
    (case exm_InvalidMember => kernel_rfl)
    (case exm_DuplicateName => kernel_rfl)
    (case exm_TooMany => kernel_rfl)

