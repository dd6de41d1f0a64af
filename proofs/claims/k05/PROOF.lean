import PyProof.Rows.All
import Wide.All
import OpenK.AllK
import Wide.FinOn
import HandS.ForMost
import HandS.Walk
import HandS.IsInst
import HandS.Zip
import HandS.Style
import HandS.Codes
import HandS.Defaults
import HandS.Evl
import HandS.More
import HandS.Strs
import HandS.FStr
import HandS.MakeKw
import HandS.MakeKwOnly
import HandS.OwnEq
import HandS.Property
import HandS.Star
import HandS.RaiseMore
import HandS.StrMore
import HandS.Text
import KE.GoesEnum
import KE.GoesMore
import KE.RegKIsAll
import KE.IntTextText
import KE.KIntText
import KE.OsScanText
import PyProof.ReprRoads
import HandS.FStrTup
import HandS.Nested
import HandS.ExcInit
import HandS.TryMany
import HandS.EndTab
import KE.KExcSuper
import KE.KSuper
import KE.KNest
import KE.KDflt
import HandS.ExcField
import HandS.WordsExc
import HandS.HotCalls
import KE.KTryMore
import KE.KExcLine
import KE.RegKSuper
import KE.KNestM
import HandS.TryOnly
import HandS.Deep
import PySem.Challenge.RW_leastimage_k05_pieces_refused
set_option Elab.async false
set_option maxRecDepth 100000
set_option maxHeartbeats 4000000
set_option linter.all false
namespace Kk
open PySem L2 PyProof.Rows
end Kk
namespace SupX
open PySem PySem.Spec PyProof.Rows L2 LamX NdefX
/-! ### an __init__ whose first row is super().__init__(e) -/
/-- what the program itself must be: its file, and no global called super -/
structure ProgS (P : Program) (fl : Str) : Prop where
  file : ((P.main.file : Str) == fl) = true
  top : (P.main.scope.names.lookup ("super" : Str)).isSome = false
/-- what the written part says of the def at f of the class at D, and of the base's __init__ -/
structure SupF (fl : Str) (K : PySem.W.Frag) (mg : Str → Option Value) (B i newId : String) (bmB : List Value) (D f cc cda : Addr) (params : Arguments) (qual : Str) : Prop where
  code : PySem.W.codeIn K (.ref cda) qual = true
  file : ∃ ccl cdd vs ccs tf, K.lookup cda = some ⟨ccl, cdd, .fields vs, ccs⟩ ∧ vs[2]? = some (.str fl tf)
  cell : ∃ cl cld csl, K.lookup cc = some ⟨cl, cld, .cell (some (.ref D)), csl⟩
  cls : ∃ cd, PySem.W.clsIn K D = some cd
  sub : PySem.W.mroIn K D (.ref D) = some true
  noS : mg "super" = none
  par : ∃ ar, (params.posonlyargs ++ params.args).head? = some ar ∧ ar.arg = "self"
  ini : PySem.W.ks_superIn K D D "__init__" = some (some (.builtin i))
  isB : PySem.W.subIn K (.ref D) (.type B) = some true
  opq : PySem.W.nsIn K PySem.cStatics "thirdparty.any" = some none
  made : PySem.W.excInitIn K D bmB newId = true
section
variable {X : Cx} {pins : List (Addr × Obj)} {σ : L2.St} {H : Hp} {s : Shared} {a C : Addr} {B i newId : String} {bmB : List Value}
/-- the wrapper is called: nothing of it is told -/
theorem call_mw {us : List Value} {u : Addr} {Q : Value → Shared → Prop} (FB : ExcBaseFacts B newId i bmB) (q : PySem.W.excInitIn X.K C bmB newId = true) (I : Inv X pins σ H s) (e : H a = some (exo a C none)) (hu : s.heap.get? u = some (PySem.W.kxs_mw i a)) (hl : us.length ≤ sizeLine) (h : ∀ s', Inv X pins σ H s' → Q .none s') :
    wpAny (model X.prog X.w) X.A (call (.ref u) us) Q E s := by
  obtain ⟨nm, N', qn, bs, bm, hdct, sn, sub, ab, col, dd, k0, k1, k2, k3, k5, hC, hT⟩ := PySem.W.excInit_of I.kIn q
  obtain ⟨t1, he⟩ := exo_at I.hok e
  have fin : ∀ h' : Heap, (∀ b o, b ≠ a → s.heap.get? b = some o → h'.get? b = some o) → h'.get? a = some (PySem.W.excObj C s.heap.objs.size none .none) → h'.get? s.heap.objs.size = some (PySem.W.excTup us) → Q .none { s with heap := h' } := fun h' k hx _ => by
    have J := I.write (t' := s.toks) (x := a) (e := a) (o := exo a C none) (by rw [e]; exact True.intro) (.inl rfl) k ⟨_, hx⟩ (exo_ok hx)
    have eu : upd H a (exo a C none) = H := by
      funext b
      by_cases hb : b = a
      · rw [hb, upd_same, e]
      · rw [upd_ne hb]
    rw [eu] at J
    exact h _ J
  obtain ⟨hh, g, d, tk, os⟩ := s
  refine wpAny_call (codeAny_of_tree ?_)
  show wpAny _ X.A.in1 (callAny (.ref u) ⟨us, []⟩) _ _ _
  simp only [callAny]
  refine wpAny_bind (wpAny_load hu ?_)
  simp only [PySem.W.kxs_mw, show (Value.type "method-wrapper" == Value.type "method" || Value.type "method-wrapper" == Value.type "builtin_function_or_method" || Value.type "method-wrapper" == Value.type "method-wrapper") = true by decide, if_true]
  refine PySem.W.KFB.if_so (by decide) ?_
  refine wpAny_bind (PySem.W.check_bound_init FB.toExcCallFacts hC he rfl ?_)
  refine wpAny_bind (wpAny_pure (wpAny_pure ?_))
  refine ⟨plainId_quiet FB.init.plain _, codeAny_builtin FB.initEntry ?_⟩
  exact PySem.W.exc_init_tree (cls := .ref C) (t0 := t1) (dv := none) (c2 := .none) (c3 := .none) (b4 := .bool false) he hl fin
end
section
variable {CX : CXT} {P : Program} {w : World} {K : PySem.W.Frag} {mg : Str → Option Value} {base : Heap} {N ps : List Str} {k : Nat} {f cc cda D : Addr} {name qual : Str} {params : Arguments} {e1 : Expr} {rest : List Stmt} {scope : Scope} {dV kV doc pm ct oc : Value} {an od : Option Addr}
  {osl : Array (Option Value)} {sp : Sp} {p0 p1 p2 p3 p4 : Pos} {B i newId : String} {bmB : List Value} {fl : Str}
abbrev supRow (e1 : Expr) (p0 p1 p2 p3 p4 : Pos) : Stmt := .Expr (.Call (.Attribute (.Call (.Name "super" p0) [] [] p1) "__init__" p2) [e1] [] p3) p4
abbrev supNF (name qual : Str) (params : Arguments) (body : List Stmt) (scope : Scope) (cc cda : Addr) : NF := ⟨name, qual, params, body, scope, [("__class__", cc)], cda⟩
theorem fn_super (lk : K.lookup f = some ⟨oc, od, .func (PySem.W.ksFn name qual params (supRow e1 p0 p1 p2 p3 p4 :: rest) scope dV kV doc pm an (.ref cda) ct cc), osl⟩)
    (PS : ProgS P fl) (SF : SupF fl K mg B i newId bmB D f cc cda params qual) (FB : ExcBaseFacts B newId i bmB) (KF : PySem.W.KxsFacts B i) (S : NScope N ps ["__class__"] scope) (hks : scope.names.lookup ("super" : Str) = some .globalImplicit) (h0 : ps[0]? = some ("self" : Str))
    {pl : Env → Sem Bool} (hc : ∀ env : Env, eval (.Call (.Attribute (.Call (.Name "super" p0) [] [] p1) "__init__" p2) [e1] [] p3) env = (do
      let ov ← attributeBase (.Call (.Name "super" p0) [] [] p1) "__init__" env (eval (.Call (.Name "super" p0) [] [] p1) env)
      standAt p2.atName
      let (f, first) ← holding [ov] (getMethod ov "__init__" (pl env))
      callWith p3 f first (backTo p3 (starEach [e1] env)) []))
    (he : ∀ env : Env, starEach [e1] env = [(false, eval e1 env)]) (hsw : ∀ env : Env, swapsWith (.Call (.Attribute (.Call (.Name "super" p0) [] [] p1) "__init__" p2) [e1] [] p3) none p4.line env = pure false)
    (len : ∀ vs H Q E, sp vs H Q E → vs.length = ps.length)
    (hbody : ∀ (A : Around) (outer : List Env) (s : Shared) (H : Hp) (vs : List V) (Q : VK) (E : XK), Room k (A.deeper (envF (supNF name qual params (supRow e1 p0 p1 p2 p3 p4 :: rest) scope cc cda) f s.heap.objs.size)) → sp vs H Q E →
      ∃ a ta tr, vs[0]? = some (.ref a) ∧ H a = some (exo a D none) ∧ PA (ncx CX P w K mg base N (supNF name qual params (supRow e1 p0 p1 p2 p3 p4 :: rest) scope cc cda) f A outer s H E) [e1] ta ∧ PSs (ncx CX P w K mg base N (supNF name qual params (supRow e1 p0 p1 p2 p3 p4 :: rest) scope cc cda) f A outer s H E) rest tr ∧
        ta (startF N vs [none]) H fun ws H1 => ws.length ≤ 1000 ∧ H1 a = some (exo a D none) ∧ tr { nx := fun _ H' => Q .non H', rt := Q } (startF N vs [none]) H1) :
    FnOk P w K mg base CX (k + 1) f (PySem.W.ksFn name qual params (supRow e1 p0 p1 p2 p3 p4 :: rest) scope dV kV doc pm an (.ref cda) ct cc) ps sp := by
  refine ⟨len, fun A outer s H args us vs Q E hr e0 hb r hsp => ?_⟩
  have hl := len _ _ _ _ hsp
  have KX : K.In s.heap := e0.mod.kin.keeps fun b o e => (e0.bs b o e).1
  have KB : K.In base := e0.mod.kin
  have lim : s.heap.NoLimit := e0.mod.nolimit.keeps fun b o e => (e0.bs b o e).1
  obtain ⟨a, ta, tr, hv0, ha, pa, pr, q⟩ := hbody A outer s H vs Q E (hr.deeper _) hsp
  obtain ⟨clc, cdc, vsC, ccs, tf, hcode, hvs⟩ := SF.file
  obtain ⟨cl, cld, csl, hcell⟩ := SF.cell
  obtain ⟨cd, hcd⟩ := SF.cls
  obtain ⟨ar, hpar, har⟩ := SF.par
  have hkc : scope.names.lookup ("__class__" : Str) = some .free := S.frk _ (by simp)
  have hka : scope.names.lookup ar.arg = some .local := by
    rw [har]
    exact S.par _ (List.mem_of_getElem? h0)
  have C : CellsAt [(("__class__" : Str), cc)] ["__class__"] [none] s.heap H := by
    have hc : s.heap.IsCell cc (some (.ref D)) := ⟨_, KX _ _ hcell, rfl⟩
    refine ⟨rfl, fun y c h => ?_, fun x y c h1 h2 => ?_, fun j y h => ?_⟩
    · have e : c = cc := by
        simp only [List.lookup] at h
        split at h
        · exact (Option.some.inj h).symm
        · cases h
      rw [e]
      exact ⟨(e0.bs _ _ (KB _ _ hcell)).2, _, hc⟩
    · have e1 : x = "__class__" := by
        simp only [List.lookup] at h1
        split at h1
        · rename_i z
          exact eq_of_beq z
        · cases h1
      have e2 : y = "__class__" := by
        simp only [List.lookup] at h2
        split at h2
        · rename_i z
          exact eq_of_beq z
        · cases h2
      rw [e1, e2]
    · match j, h with
      | 0, h =>
        have e : y = "__class__" := (Option.some.inj h).symm
        subst e
        exact ⟨cc, by simp [List.lookup], fun v z => by cases z⟩
      | j + 1, h => exact absurd h (by simp)
  refine ks_codeAny_call_defAt (fd := PySem.W.ksFn name qual params (supRow e1 p0 p1 p2 p3 p4 :: rest) scope dV kV doc pm an (.ref cda) ct cc) (body := supRow e1 p0 p1 p2 p3 p4 :: rest) (binds := ps.zip us) hr.depth (KX _ _ lk) rfl lim (PySem.W.codeRec_of KX SF.code) rfl hb S.nocell (fun ⟨n, _⟩ hy => S.par n (List.of_mem_zip hy).1) (fun h1 hns kp => ?_) S.co S.gen S.kind
  have I : Inv (ncx CX P w K mg base N (supNF name qual params (supRow e1 p0 p1 p2 p3 p4 :: rest) scope cc cda) f A outer s H E) [] (startF N vs [none]) H { s with heap := h1, toks := s.toks + (ps.zip us).length } := inv_startN (F := supNF name qual params (supRow e1 p0 p1 p2 p3 p4 :: rest) scope cc cda) S hr.hd e0 hl r C hns kp
  show _root_.PySem.wpAt (model P w) (A.deeper (envF (supNF name qual params (supRow e1 p0 p1 p2 p3 p4 :: rest) scope cc cda) f s.heap.objs.size)) (.func (supRow e1 p0 p1 p2 p3 p4 :: rest) (envF (supNF name qual params (supRow e1 p0 p1 p2 p3 p4 :: rest) scope cc cda) f s.heap.objs.size)) (execs (supRow e1 p0 p1 p2 p3 p4 :: rest) (envF (supNF name qual params (supRow e1 p0 p1 p2 p3 p4 :: rest) scope cc cda) f s.heap.objs.size)) _ _ _
  refine ks_wpAt_execs_cons (ks_wpAt_Expr_any (ks_wpAt_MethodCall ?_ (hc _)) I.quiet (hsw _))
  have X : K.In h1 := KX.keeps kp
  obtain ⟨oD, hD1, hD2⟩ : ∃ oD, h1.get? D = some oD ∧ oD.data = .cls cd := by
    unfold PySem.W.clsIn at hcd
    split at hcd
    · rename_i c d cd' sl ho
      cases hcd
      exact ⟨_, X _ _ ho, rfl⟩
    · cases hcd
  refine ks_wpAt_super_base (env := envF (supNF name qual params (supRow e1 p0 p1 p2 p3 p4 :: rest) scope cc cda) f s.heap.objs.size) hks hkc (by decide) rfl (X _ _ lk) rfl hpar rfl (X _ _ hcode) rfl hvs PS.file PS.top ?_
  obtain ⟨mb, hmb, hboot⟩ := I.mod.blt
  refine PySem.W.ks_loadName_global S.kind hks (Calls.loadGlobal_builtin (env := envF (supNF name qual params (supRow e1 p0 p1 p2 p3 p4 :: rest) scope cc cda) f s.heap.objs.size) (I.mod.glob.keeps I.bk) SF.noS (hmb.keeps I.bk) ((hboot _ (by decide)).trans (by first | boot_by_name | rfl | kernel_rfl)) ⟨rfl, ?_⟩)
  refine wpAny_loadName_free (env := envF (supNF name qual params (supRow e1 p0 p1 p2 p3 p4 :: rest) scope cc cda) f s.heap.objs.size) S.kind hkc rfl ⟨_, X _ _ hcell, rfl⟩ ?_
  obtain ⟨u0, hu0, ru0⟩ := r.get hv0
  obtain rfl : u0 = Value.ref a := ru0
  have ndP : ps.Nodup := by
    have q := S.nd.sublist (List.take_sublist (ps.length + 1) N)
    rw [show N.take (ps.length + 1) = ps ++ [("__class__" : Str)] from S.pre] at q
    exact (List.nodup_append.mp q).1
  have hlook : (ps.zip us).reverse.lookup ar.arg = some (.ref a) := by
    rw [har]
    exact zip_look ndP h0 hu0
  refine wpAny_loadName_local S.kind hka hns hlook ?_
  refine ks_wpAny_isType_cls hD1 hD2 ⟨rfl, ?_⟩
  obtain ⟨t1, hx⟩ := exo_at I.hok ha
  refine ks_wpAny_call_super hD1 hD2 hx rfl (fun c e => by cases e) (PySem.W.looks_mroIn X SF.sub) (fun h2 eso k2 => ?_)
  have I2 := I.kept (t' := s.toks + (ps.zip us).length) k2
  have IA : PySem.W.InstAt h2 a { cls := .ref D, data := .fields #[.ref t1, .none, .none, .none, .bool false, .none] } D none := ⟨k2 _ _ hx, rfl, rfl, trivial⟩
  have X2 : K.In h2 := X.keeps k2
  have hsi := SF.ini
  unfold PySem.W.ks_superIn at hsi
  rw [hcd] at hsi
  refine PySem.W.kxs_getMethod KF eso (PySem.W.looks_opaque X2 SF.opq) (l₀ := cd.mro) (fun A Q E s k q => wpAny_bind ((PySem.W.looks_clsIn X2 hcd) A _ E s k (wpAny_pure q))) rfl X2 hsi (IA.type.andThen (PySem.W.looks_subIn X2 SF.isB)) (PySem.W.ks_ne X2 IA hcd) (by decide) ?_
  have k3 : ∀ b o, h2.get? b = some o → (h2.push (PySem.W.kxs_mw i a)).get? b = some o := fun b o e => Heap.get?_push_of_some _ e
  have I3 := I2.kept (t' := s.toks + (ps.zip us).length + 1) k3
  have nu : H h2.objs.size = none := I2.hok.fresh (Nat.le_refl _)
  have I4 := I3.pins_of (pins' := [(h2.objs.size, PySem.W.kxs_mw i a)]) (fun p hp => by
    obtain rfl := List.mem_singleton.mp hp
    refine ⟨Heap.get?_push_at rfl rfl, nu, fun z => ?_, I2.nofs (Nat.le_refl _), fun v z => by cases z⟩
    obtain ⟨oL, es, ep, hL, _⟩ := hns
    have y := Heap.lt_size (k2 _ _ hL)
    exact absurd (show h2.objs.size = s.heap.objs.size from z) (Nat.ne_of_gt y))
  refine PySem.W.kxs_callWith (i := i) (x := a) ?_ ?_
  · rw [he]
    rfl
  have hrun := thn (pa.run p3 [(h2.objs.size, PySem.W.kxs_mw i a)] _ (startF N vs [none]) H _ I4 q) (Q' := fun ws s₁ => PySem.W.KxsAt i h2.objs.size a s₁.heap ∧ wpAny (model P w) (A.deeper (envF (supNF name qual params (supRow e1 p0 p1 p2 p3 p4 :: rest) scope cc cda) f s.heap.objs.size)) (call (.ref h2.objs.size) ([] ++ ws))
      (fun _ s' => PySem.wpAt (model P w) (A.deeper (envF (supNF name qual params (supRow e1 p0 p1 p2 p3 p4 :: rest) scope cc cda) f s.heap.objs.size)) (.func (supRow e1 p0 p1 p2 p3 p4 :: rest) (envF (supNF name qual params (supRow e1 p0 p1 p2 p3 p4 :: rest) scope cc cda) f s.heap.objs.size)) (execs rest (envF (supNF name qual params (supRow e1 p0 p1 p2 p3 p4 :: rest) scope cc cda) f s.heap.objs.size)) (fun fl s' => CR CX outer P w H s Q E (.ok (.ret (match fl with | .ret v => v | _ => .none))) s') (ncx CX P w K mg base N (supNF name qual params (supRow e1 p0 p1 p2 p3 p4 :: rest) scope cc cda) f A outer s H E).xe s') (ncx CX P w K mg base N (supNF name qual params (supRow e1 p0 p1 p2 p3 p4 :: rest) scope cc cda) f A outer s H E).xe s₁) fun ws s₁ ⟨vs1, H1, I5, r1, hz, h1a, q1⟩ => by
    have hp := (I5.pin (h2.objs.size, PySem.W.kxs_mw i a) (by simp [ncx])).1
    refine ⟨hp, call_mw FB SF.made I5 h1a hp (by rw [List.nil_append, ← Paired.length r1, sizeLine_eq]; omega) fun s' J => ?_⟩
    refine wpAt_of_wpAny (wpAny_mono (pr.run _ _ (startF N vs [none]) H1 _ J q1) (fun fl s' hs => ?_) fun e s' hs => hs)
    have fin : ∀ {σ' : L2.St} {H' : Hp} {v : V} {u : Value}, Inv (ncx CX P w K mg base N (supNF name qual params (supRow e1 p0 p1 p2 p3 p4 :: rest) scope cc cda) f A outer s H E) [(h2.objs.size, PySem.W.kxs_mw i a)] σ' H' s' → L2.RelV v u → Q v H' → CE outer P w H s Q u s' :=
      fun {σ' H' v u} J rv q => ⟨v, H', J.os, J.bare, J.base, J.hok, rv, q⟩
    cases fl with
    | ret u =>
      obtain ⟨v, σ', H', J, rv, q⟩ := hs
      exact fin J rv q
    | next =>
      obtain ⟨σ', H', J, q⟩ := hs
      exact fin (v := V.non) (u := Value.none) J rfl q
    | brk =>
      obtain ⟨_, _, _, q⟩ := hs
      exact False.elim q
    | cont =>
      obtain ⟨_, _, _, q⟩ := hs
      exact False.elim q
  rw [he] at hrun ⊢
  exact Calls.evalArgs_plain hrun
end
end SupX
namespace Kk
open PySem L2 PyProof.Rows

end Kk
namespace PySem
open PySem.Spec PyProof.Rows
open Sem
section
theorem rpx_list_head {M : Model} {A : Around} {E : Value → Shared → Prop} {s : Shared} {Q : Fin → Shared → Prop} {a : Addr} {o : Obj} {x : Value} {l : List Value} {n : Nat} {b : Nat}
    (hget : s.heap.get? a = some o) (hd : o.data = .seq (x :: l).toArray n) (h1 : wpAny M A (do rule "list.__repr__.in-itself"; return ← retStr "[...]") Q E s)
    (h : wpAny M A (do again (.builtin "list.__repr__.loop" ⟨[.ref a, rawInt 0, ← newList [], rawInt b], []⟩)) Q E s) : wpAny M A (Builtin.listReprAt b ⟨[.ref a], []⟩) Q E s := by
  intro Γ p hΓ
  have e2 := h Γ p hΓ
  have e1 := h1 Γ p hΓ
  unfold Builtin.listReprAt
  simp [slotArgs, Builtin.List.listItems, seqItems?, wp_load_of (h := hget), hd, stack]
  show wp M Γ (if (Γ.below.any _) = true then _ else _) _ _ p s
  split
  · simpa using e1
  · exact e2
end
section
variable {prog : Program} {w : World} {A : Around} {E : Value → Shared → Prop} {s : Shared} {a : Addr} {oa : Obj} {x : Value} {l : List Value} {na : Nat} {ts : List Str}
theorem rpx_item {prog : Program} {w : World} : ∀ {l : List Value} {ts : List Str}, ReprAll prog w l ts → ∀ (i : Nat) (y : Value), l[i]? = some y → ∃ t, ts[i]? = some t ∧ ReprIs prog w y t
  | _, _, .nil, _, _, e => by simp at e
  | _, _, .cons h _, 0, _, e => by
    simp at e
    subst e
    exact ⟨_, rfl, h⟩
  | _, _, .cons _ r, i + 1, y, e => by
    obtain ⟨t, h1, h2⟩ := rpx_item r i y (by simpa using e)
    exact ⟨t, by simpa using h1, h2⟩
theorem rpx_list {Q : Value → Shared → Prop} (hTy : s.TypeIs (.ref a) "list") (ha : s.heap.get? a = some oa) (hda : oa.data = .seq (x :: l).toArray na) (hT : ReprAll prog w (x :: l) ts)
    (hsz : (listText ts).length ≤ sizeLine) (h : ∀ h' m u tk, (∀ b o, s.heap.get? b = some o → h'.get? b = some o) → m.length ≤ (listText ts).length + 5 → Q (.str m u) { s with heap := h', toks := tk }) :
    wpAny (model prog w) A (call (.builtin "list.__repr__") [.ref a]) Q E s := by
  refine wpAny_call (codeAny_call_builtin F.slot_list_repr.plain F.entry_list_repr (F.slot_list_repr.check _ _ _ _ _ _ _ _ hTy (F.args_list_repr_1 _) ?_))
  show wpAny (model prog w) A.in1 (Builtin.listReprAt 0 ⟨[.ref a], []⟩) _ _ s
  refine rpx_list_head ha hda ?_ ?_
  · refine wpAny_bind (wpAny_rule ?_)
    refine wpAny_bind (wpAny_mkStr (wpAny_pure ?_) (by decide +kernel))
    exact h s.heap "[...]" _ _ (fun _ _ e => e) (Nat.le_trans (show ("[...]" : Str).length ≤ 5 by decide +kernel) (Nat.le_add_left _ _))
  · refine wpAny_bind (m := newList []) (wpAny_newObj_type ?_)
    refine wpAny_pure ⟨F.quiet_list_repr_loop _, ?_⟩
    refine codeAny_list_repr_start (P := s.heap.objs.size) (Nat.ne_of_lt (Heap.lt_size ha)) (ts := ts) (by simpa using hT.length_eq) (fun i y e => rpx_item hT i y (by simpa using e)) (Heap.get?_push_of_some _ ha) hda (Heap.get?_push_size _ rfl) (fun h' u tk hk => ?_) (by omega)
    exact h h' (listText ts) u tk (fun b o e => hk b o (Nat.ne_of_lt (Heap.lt_size e)) (Heap.get?_push_of_some _ e)) (Nat.le_add_right _ _)
/-- repr of a list or tuple of plain things, whatever is under way: some text -/
theorem rpx_tupleObj {o : Obj} {items : Array Value} {n : Nat} {Q : Value → Shared → Prop} (hu : A.units < cLine) (ha : s.heap.get? a = some o) (hc : o.cls = .type "tuple") (hd : o.data = .seq items n) (hT : ReprAll prog w items.toList ts) (hsz : (tupleText ts).length ≤ sizeLine)
    (h : ∀ (m : Str) (u tk : Tok), m.length ≤ (tupleText ts).length + 5 → Q (.str m u) { s with toks := tk }) : wpAny (model prog w) A (pyReprObj (.ref a)) Q E s :=
  wpAny_pyReprObj_slot hu ⟨o, ha, hc⟩ F.slot_tuple_repr (fmt_tuple_repr ha hc hd hT hsz fun m u tk hm => ⟨m, u, rfl, h m u tk hm⟩)
theorem rpx_listObj {o : Obj} {items : Array Value} {n : Nat} {Q : Value → Shared → Prop} (hu : A.units < cLine) (ha : s.heap.get? a = some o) (hc : o.cls = .type "list") (hd : o.data = .seq items n) (hT : ReprAll prog w items.toList ts) (hsz : (listText ts).length ≤ sizeLine)
    (h : ∀ h' m u tk, (∀ b o, s.heap.get? b = some o → h'.get? b = some o) → m.length ≤ (listText ts).length + 5 → Q (.str m u) { s with heap := h', toks := tk }) : wpAny (model prog w) A (pyReprObj (.ref a)) Q E s := by
  obtain ⟨l⟩ := items
  cases l with
  | nil => exact wpAny_pyReprObj_list_empty ⟨o, ha, hc⟩ hu ha hd (h s.heap "[]" _ _ (fun _ _ e => e) (Nat.le_trans (show ("[]" : Str).length ≤ 5 by decide +kernel) (Nat.le_add_left _ _)))
  | cons x l =>
    exact wpAny_pyReprObj_slot hu ⟨o, ha, hc⟩ F.slot_list_repr.toG (rpx_list ⟨o, ha, hc⟩ ha hd hT hsz fun h' m u tk k hm => ⟨m, u, rfl, h h' m u tk k hm⟩)
end
end PySem
namespace L2
open PySem PySem.Spec PyProof.Rows
/-- a plain thing and its text -/
inductive Flat : V → Str → Prop
  | non : Flat .non "None"
  | bl (b : Bool) : Flat (.bl b) (if b then "True" else "False")
  | int (i : Int) (h : i.natAbs.log2 < 1920) : Flat (.int i) (toString i)
  | str (z : Str) (h : (reprText z).length ≤ sizeLine) : Flat (.str z) (reprText z)
inductive FlatA : List V → List Str → Prop
  | nil : FlatA [] []
  | cons {x : V} {t : Str} {xs : List V} {ts : List Str} (h : Flat x t) (r : FlatA xs ts) : FlatA (x :: xs) (t :: ts)
theorem FlatA.repr {prog : Program} {w : World} : ∀ {xs : List V} {ts : List Str}, FlatA xs ts → ∀ {its : List Value}, Vals xs its → ReprAll prog w its ts
  | _, _, .nil, _, r => by
    cases r
    exact .nil
  | _, _, .cons h r, _, v => by
    cases v with
    | cons v1 v2 =>
      refine .cons ?_ (r.repr v2)
      cases h with
      | non => cases v1; exact ReprIs.none
      | bl b => cases v1; exact ReprIs.bool b
      | int i h => obtain ⟨t, rfl⟩ := v1; exact ReprIs.int t h
      | str z h => obtain ⟨t, rfl⟩ := v1; exact ReprIs.str z t h
theorem list_text : ∀ ts : List Str, (listText ts).length ≤ piled ts + 2
  | [] => by decide +kernel
  | t :: r => by
    have h := textFrom_length_pos r 1 (("[" : Str) ++ (if (0 : Nat) > 0 then ", " else "" : String) ++ t) (Nat.succ_pos 0)
    have e : ((("[" : Str) ++ (if (0 : Nat) > 0 then ", " else "" : String) ++ t)).length = 1 + t.length := by
      rw [strLen_append, strLen_append]; rfl
    have hX : (listText (t :: r)).length = (textFrom 0 "[" (t :: r)).length + 1 := by
      show (textFrom 0 "[" (t :: r) ++ "]").length = _
      rw [strLen_append]; rfl
    have hY : (textFrom 0 "[" (t :: r)).length = (textFrom 1 (("[" : Str) ++ (if (0 : Nat) > 0 then ", " else "" : String) ++ t) r).length := rfl
    rw [hX, hY, h, e, piled_cons]
    omega
/-- what {x!r} comes to is no longer than c and a little -/
def Shows (K : PySem.W.Frag) (H : Hp) (x : V) (c : Nat) : Prop := (∃ t, Flat x t ∧ t.length ≤ c) ∨ ∃ (a : Addr) (xs : List V) (ts : List Str), x = .ref a ∧ (SqT K H a xs ∨ SqL K H a xs) ∧ FlatA xs ts ∧ piled ts ≤ c
def RFmtX (K : PySem.W.Frag) (x : V) (H1 : Hp) (Q : VK) : Prop := ∃ c : Nat, Shows K H1 x c ∧ c + 7 ≤ sizeLine ∧ ∀ m : Str, m.length ≤ c + 7 → Q (.str m) H1
def tFmtX (K : PySem.W.Frag) (te : TE) : TE := fun σ H Q => te σ H fun x H1 => RFmtX K x H1 Q
theorem pe_fmtX {X : Cx} {e : Expr} {te : TE} {pos : Pos} {k : Nat} (hr : Room k X.A) (he : PE X e te) : PE X (.FormattedValue e 114 none pos) (tFmtX X.K te) := by
  refine ⟨fun pins s σ H Q I h => ?_⟩
  refine wpAny_FormattedValue_repr (thn (he.run pins s σ H _ I h) fun v s1 hv => ?_)
  obtain ⟨x, H1, I1, r1, c, sh, hz, q⟩ := hv
  have fin : ∀ (m : Str) (u : Tok) (s2 : Shared), Inv X pins σ H1 s2 → m.length ≤ c + 7 → wpAny (model X.prog X.w) X.A (formatField (.str m u) Str.empty) (fun r s' => ∃ y H', Inv X pins σ H' s' ∧ RelV y r ∧ Q y H') X.xe s2 := fun m u s2 I2 hm =>
    wpAny_formatField_str ⟨.str m, H1, I2, ⟨_, rfl⟩, q m hm⟩ ⟨.str m, H1, I2.tok _, ⟨_, rfl⟩, q m hm⟩ (by omega)
  have hu := hr.units
  rcases sh with ⟨t, hf, ht⟩ | ⟨a, xs, ts, rfl, hs, hf, ht⟩
  · cases hf with
    | non => cases r1; exact pyReprObj_none (fin _ _ _ (I1.tok _) (by omega))
    | bl b => cases r1; exact pyReprObj_bool (fin _ _ _ (I1.tok _) (by omega))
    | int i h => obtain ⟨t, rfl⟩ := r1; exact pyReprObj_int h (fin _ _ _ (I1.tok _) (by omega))
    | str z h => obtain ⟨t, rfl⟩ := r1; exact pyReprObj_str (fin _ _ _ (I1.tok _) (by omega)) h
  · cases r1
    rcases hs with hs | hs
    · obtain ⟨its, rv, ⟨o, ho, hcl, n, hd⟩, _⟩ := I1.tuple hs
      have htx := fmt_text ts
      exact rpx_tupleObj (ts := ts) (by omega) ho hcl hd (hf.repr rv) (by omega) fun m u tk hm => fin m u _ (I1.tok _) (by omega)
    · obtain ⟨its, rv, ⟨o, n, ho, hcl, _, hd⟩, _⟩ := I1.list hs
      have htx := list_text ts
      exact rpx_listObj (ts := ts) (by omega) ho hcl hd (hf.repr rv) (by omega) fun h' m u tk k hm => fin m u _ (I1.kept k) (by omega)
end L2
namespace Kk
open PySem L2 PyProof.Rows

end Kk
namespace Lend
open PySem PySem.Spec PyProof.Rows L2
/-! ### cells lent to a callee: tracked there as they stand, let go behind it -/
def CelO (c : Addr) (o : Obj) : HO := .ext fun h => h.get? c = some o
def lend (H : Hp) (cs : List (Addr × Obj)) : Hp := fun b => match cs.lookup b with
  | some o => some (CelO b o)
  | none => H b
def unl (H : Hp) (cs : List (Addr × Obj)) : Hp := fun b => match cs.lookup b with
  | some _ => none
  | none => H b
theorem celO_own {c x : Addr} {o : Obj} : CelO c o ≠ .own x := fun z => by
  have z' : HO.ext _ = HO.own x := z
  cases z'
theorem celO_tup {c : Addr} {o : Obj} {xs : List V} : CelO c o ≠ .tup xs := fun z => by
  have z' : HO.ext _ = HO.tup xs := z
  cases z'
theorem celO_frz {c : Addr} {o u : Obj} {v : HO} : CelO c o ≠ .frz u v := fun z => by
  have z' : HO.ext _ = HO.frz u v := z
  cases z'
theorem celO_tbl {c : Addr} {o : Obj} {ps : Array Value} : CelO c o ≠ .tbl ps := fun z => by
  have z' : HO.ext _ = HO.tbl ps := z
  cases z'
section
variable {P : Program} {w : World} {H H' : Hp} {h h' : Heap} {cs : List (Addr × Obj)} {fs : List Addr} {b : Addr} {o : Obj}
theorem lend_in (e : cs.lookup b = some o) : lend H cs b = some (CelO b o) := by
  unfold lend
  rw [e]
theorem lend_out (e : cs.lookup b = none) : lend H cs b = H b := by
  unfold lend
  rw [e]
theorem unl_in (e : cs.lookup b = some o) : unl H cs b = none := by
  unfold unl
  rw [e]
theorem unl_out (e : cs.lookup b = none) : unl H cs b = H b := by
  unfold unl
  rw [e]
theorem cel_at (hok : HOk P w H h) (e : H b = some (CelO b o)) : h.get? b = some o := by
  have x : ObjOk P w H h b (.ext fun h => h.get? b = some o) := hok b _ e
  exact x.1
/-- outside: the cells stand in the heap and are not tracked -/
def Outs (H : Hp) (h : Heap) (cs : List (Addr × Obj)) : Prop := ∀ b o, cs.lookup b = some o → h.get? b = some o ∧ H b = none
/-- inside: they are tracked as they stand -/
def Ins (H : Hp) (cs : List (Addr × Obj)) : Prop := ∀ b o, cs.lookup b = some o → H b = some (CelO b o)
theorem Outs.off {u : HO} (c : Outs H h cs) (e : H b = some u) : cs.lookup b = none := by
  cases z : cs.lookup b with
  | none => rfl
  | some o =>
    rw [(c b o z).2] at e
    cases e
theorem Ins.off (c : Ins H cs) (e : H b = none) : cs.lookup b = none := by
  cases z : cs.lookup b with
  | none => rfl
  | some o =>
    rw [c b o z] at e
    cases e
theorem Ins.offO {u : HO} (c : Ins H cs) (e : H b = some u) (n : ∀ o, CelO b o ≠ u) : cs.lookup b = none := by
  cases z : cs.lookup b with
  | none => rfl
  | some o =>
    rw [c b o z] at e
    exact absurd (Option.some.inj e) (n o)
theorem lend_ins : Ins (lend H cs) cs := fun _ _ e => lend_in e
theorem lend_ok (hok : HOk P w H h) (c : Outs H h cs) : HOk P w (lend H cs) h := fun b u e => by
  cases z : cs.lookup b with
  | some o =>
    rw [lend_in z] at e
    cases e
    exact ⟨(c b o z).1, ⟨o, (c b o z).1⟩, fun h1 h2 p st => st _ p⟩
  | none =>
    rw [lend_out z] at e
    exact (hok b u e).stay (fun _ _ _ q => q) (fun d q => by rw [lend_out (c.off q)]; exact q) (fun d xs q => by rw [lend_out (c.off q)]; exact q)
theorem unl_ok (hok : HOk P w H h) (c : Ins H cs) : HOk P w (unl H cs) h := fun b u e => by
  cases z : cs.lookup b with
  | some o =>
    rw [unl_in z] at e
    cases e
  | none =>
    rw [unl_out z] at e
    exact (hok b u e).stay (fun _ _ _ q => q) (fun d q => by rw [unl_out (c.offO q fun _ => celO_own)]; exact q) (fun d xs q => by rw [unl_out (c.offO q fun _ => celO_tup)]; exact q)
theorem unl_outs (hok : HOk P w H h) (c : Ins H cs) : Outs (unl H cs) h cs := fun b o e => ⟨cel_at hok (c b o e), unl_in e⟩
/-- behind a call to which the cells were lent -/
theorem un_out (u : Un fs [] (lend H cs) H' h h') (c : Outs H h cs) (d : Ins H' cs) (hok : HOk P w H' h') : Un fs [] H (unl H' cs) h h' where
  keep := fun b o e n hf hx => by
    cases z : cs.lookup b with
    | some v =>
      rw [(c b v z).1] at e
      cases e
      exact cel_at hok (d b _ z)
    | none => exact u.keep b o e (by rw [lend_out z]; exact n) hf hx
  slot := fun b o e n hf hx => by
    cases z : cs.lookup b with
    | some v =>
      rw [(c b v z).1] at e
      cases e
      exact ⟨_, cel_at hok (d b _ z)⟩
    | none => exact u.slot b o e (by rw [lend_out z]; exact n) hf hx
  free := fun b o e n hx => by
    cases z : cs.lookup b with
    | some v => exact unl_in z
    | none =>
      rw [unl_out z]
      exact u.free b o e (by rw [lend_out z]; exact n) hx
  there := u.there
  tups := fun b xs e => by
    rw [unl_out (c.off e)]
    exact u.tups b xs (by rw [lend_out (c.off e)]; exact e)
  frzs := fun b o v e => by
    rw [unl_out (c.off e)]
    exact u.frzs b o v (by rw [lend_out (c.off e)]; exact e)
  tbls := fun b ps e => by
    rw [unl_out (c.off e)]
    exact u.tbls b ps (by rw [lend_out (c.off e)]; exact e)
/-- within a callee: the cells are its own for a while -/
theorem un_in (u : Un fs [] (unl H cs) H' h h') (c : Ins H cs) : Un fs [] H (lend H' cs) h h' where
  keep := fun b o e n hf hx => u.keep b o e (by rw [unl_out (c.off n)]; exact n) hf hx
  slot := fun b o e n hf hx => u.slot b o e (by rw [unl_out (c.off n)]; exact n) hf hx
  free := fun b o e n hx => by
    rw [lend_out (c.off n)]
    exact u.free b o e (by rw [unl_out (c.off n)]; exact n) hx
  there := u.there
  tups := fun b xs e => by
    have z := c.offO e fun _ => celO_tup
    rw [lend_out z]
    exact u.tups b xs (by rw [unl_out z]; exact e)
  frzs := fun b o v e => by
    have z := c.offO e fun _ => celO_frz
    rw [lend_out z]
    exact u.frzs b o v (by rw [unl_out z]; exact e)
  tbls := fun b ps e => by
    have z := c.offO e fun _ => celO_tbl
    rw [lend_out z]
    exact u.tbls b ps (by rw [unl_out z]; exact e)
/-- what was theirs for a while is lent again -/
theorem outs_after (u : Un fs [] (unl H cs) H' h h') (hok : HOk P w H h) (c : Ins H cs) (nf : ∀ b o, cs.lookup b = some o → b ∉ fs) : Outs H' h' cs := fun b o e => by
  have hb := cel_at hok (c b o e)
  exact ⟨u.keep b o hb (unl_in e) (nf b o e) (by simp), u.free b o hb (unl_in e) (by simp)⟩
theorem env0_unl {K : PySem.W.Frag} {mg : Str → Option Value} {base : Heap} {A : Around} {outer : List Env} {s : Shared} (e0 : Env0 P w K mg base A outer s H) (c : Ins H cs) : Env0 P w K mg base A outer s (unl H cs) :=
  ⟨e0.frames, e0.mod, fun b o e => ⟨(e0.bs b o e).1, by rw [unl_out (c.off (e0.bs b o e).2)]; exact (e0.bs b o e).2⟩, e0.bsz, e0.funs, fun b hb => by rw [unl_out (c.off (e0.frf b hb))]; exact e0.frf b hb, unl_ok e0.hok c, e0.bare⟩
theorem env0_lend {K : PySem.W.Frag} {mg : Str → Option Value} {base : Heap} {A : Around} {outer : List Env} {s : Shared} (e0 : Env0 P w K mg base A outer s H) (c : Outs H s.heap cs) (nb : ∀ b o, cs.lookup b = some o → base.get? b = none) (nf : ∀ b o, cs.lookup b = some o → b ∉ frs outer) : Env0 P w K mg base A outer s (lend H cs) :=
  ⟨e0.frames, e0.mod, fun b o e => ⟨(e0.bs b o e).1, by
    cases z : cs.lookup b with
    | some v =>
      rw [nb b v z] at e
      cases e
    | none =>
      rw [lend_out z]
      exact (e0.bs b o e).2⟩, e0.bsz, e0.funs, fun b hb => by
    cases z : cs.lookup b with
    | some v => exact absurd hb (nf b v z)
    | none =>
      rw [lend_out z]
      exact e0.frf b hb, lend_ok e0.hok c, e0.bare⟩
theorem ub_in {B : Heap} (u : UB fs (unl H cs) H' h B h') (c : Ins H cs) : UB fs H (lend H' cs) h B h' where
  keep := fun b o e n hf => u.keep b o e (by rw [unl_out (c.off n)]; exact n) hf
  slot := u.slot
  free := fun b o e n => by
    rw [lend_out (c.off n)]
    exact u.free b o e (by rw [unl_out (c.off n)]; exact n)
  there := u.there
  tups := fun b xs e => by
    have z := c.offO e fun _ => celO_tup
    rw [lend_out z]
    exact u.tups b xs (by rw [unl_out z]; exact e)
  frzs := fun b o v e => by
    have z := c.offO e fun _ => celO_frz
    rw [lend_out z]
    exact u.frzs b o v (by rw [unl_out z]; exact e)
  tbls := fun b ps e => by
    have z := c.offO e fun _ => celO_tbl
    rw [lend_out z]
    exact u.tbls b ps (by rw [unl_out z]; exact e)
theorem ub_out {B : Heap} (u : UB fs (lend H cs) H' h B h') (c : Outs H h cs) (d : Ins H' cs) (hok : HOk P w H' B) : UB fs H (unl H' cs) h B h' where
  keep := fun b o e n hf => by
    cases z : cs.lookup b with
    | some v =>
      rw [(c b v z).1] at e
      cases e
      exact cel_at hok (d b _ z)
    | none => exact u.keep b o e (by rw [lend_out z]; exact n) hf
  slot := u.slot
  free := fun b o e n => by
    cases z : cs.lookup b with
    | some v => exact unl_in z
    | none =>
      rw [unl_out z]
      exact u.free b o e (by rw [lend_out z]; exact n)
  there := u.there
  tups := fun b xs e => by
    rw [unl_out (c.off e)]
    exact u.tups b xs (by rw [lend_out (c.off e)]; exact e)
  frzs := fun b o v e => by
    rw [unl_out (c.off e)]
    exact u.frzs b o v (by rw [lend_out (c.off e)]; exact e)
  tbls := fun b ps e => by
    rw [unl_out (c.off e)]
    exact u.tbls b ps (by rw [lend_out (c.off e)]; exact e)
theorem cx_in {outer : List Env} {s s' : Shared} {E : XK} {u : Value} (x : L2.CX P w outer (unl H cs) s (fun cls d H' => E cls d (lend H' cs)) u s') (hok : HOk P w H s.heap) (c : Ins H cs) (nf : ∀ b o, cs.lookup b = some o → b ∉ frs outer) : L2.CX P w outer H s E u s' := by
  obtain ⟨a, B, H', cls, d, e, fl, hok', ub, na, os, ag, hE⟩ := x
  have o' : Outs H' B cs := fun b o z => by
    have hb := cel_at hok (c b o z)
    exact ⟨ub.keep b o hb (unl_in z) (nf b o z), ub.free b o hb (unl_in z)⟩
  have z : cs.lookup a = none := by
    cases z : cs.lookup a with
    | none => rfl
    | some o =>
      have y := fl.2.1
      rw [(o' a o z).1] at y
      cases y
  exact ⟨a, B, lend H' cs, cls, d, e, fl, lend_ok hok' o', ub_in ub c, by rw [lend_out z]; exact na, os, ag, hE⟩
theorem cx_out {outer : List Env} {s s' : Shared} {E : XK} {u : Value} (x : L2.CX P w outer (lend H cs) s (fun cls d H' => Ins H' cs ∧ E cls d (unl H' cs)) u s') (c : Outs H s.heap cs) : L2.CX P w outer H s E u s' := by
  obtain ⟨a, B, H', cls, d, e, fl, hok', ub, na, os, ag, i', hE⟩ := x
  exact ⟨a, B, unl H' cs, cls, d, e, fl, unl_ok hok' i', ub_out ub c i' hok', by rw [unl_out (i'.off na)]; exact na, os, ag, hE⟩
theorem ce_in {outer : List Env} {s s' : Shared} {Q : VK} {u : Value} (x : CE outer P w (unl H cs) s (fun v H' => Q v (lend H' cs)) u s') (hok : HOk P w H s.heap) (c : Ins H cs) (nf : ∀ b o, cs.lookup b = some o → b ∉ frs outer) : CE outer P w H s Q u s' := by
  obtain ⟨v, H', os, bare, un, hok', r, q⟩ := x
  exact ⟨v, lend H' cs, os, bare, un_in un c, lend_ok hok' (outs_after un hok c nf), r, q⟩
theorem ce_out {outer : List Env} {s s' : Shared} {Q : VK} {u : Value} (x : CE outer P w (lend H cs) s (fun v H' => Ins H' cs ∧ Q v (unl H' cs)) u s') (c : Outs H s.heap cs) : CE outer P w H s Q u s' := by
  obtain ⟨v, H', os, bare, un, hok', r, i', q⟩ := x
  exact ⟨v, unl H' cs, os, bare, un_out un c i' hok', unl_ok hok' i', r, q⟩
end
/-! ### a function that is handed on: what stands, and what a call of it does -/
structure AskOk (P : Program) (w : World) (K : PySem.W.Frag) (mg : Str → Option Value) (base : Heap) (CX : CXT) (k : Nat) (f : Addr) (fs : List (Addr × HO)) (sp : Hp → VK → XK → Prop) : Prop where
  fn : ∀ (H : Hp) (h : Heap), HOk P w H h → (∀ p ∈ fs, H p.1 = some p.2) → PySem.W.FnAt f h
  run : ∀ (A : Around) (outer : List Env) (s : Shared) (H : Hp) (Q : VK) (E : XK), Room k A → Env0 P w K mg base A outer s H → (∀ p ∈ fs, H p.1 = some p.2) → sp H Q E → codeAny (model P w) A (.call (.ref f) ⟨[], []⟩) (CR CX outer P w H s Q E) s
def tAsk (P : Program) (w : World) (K : PySem.W.Frag) (mg : Str → Option Value) (base : Heap) (CX : CXT) (k i : Nat) (E : XK) : TE := fun σ H Q => ∃ (f : Addr) (fs : List (Addr × HO)) (sp : Hp → VK → XK → Prop), σ[i]? = some (some (.ref f)) ∧ AskOk P w K mg base CX k f fs sp ∧ (∀ p ∈ fs, H p.1 = some p.2) ∧ sp H Q E
theorem pe_ask {X : Cx} {CX : CXT} {k i : Nat} {E : XK} {a : Str} {p1 p2 : Pos} (hr : Room k X.A) (hx : Passes CX X E) (hN : X.N[i]? = some a) (hv : Vis X.env.scope a) (hd : (a == ("__debug__" : Str)) = false := by decide) (hcd : (a == ("__classdict__" : Str)) = false := by decide) :
    PE X (.Call (.Name a p1) [] [] p2) (tAsk X.prog X.w X.K X.mg X.base CX k i E) := by
  refine ⟨fun pins s σ H Q I h => ?_⟩
  obtain ⟨f, fs, sp, hs, ok, hf, q⟩ := h
  refine wpAny_Call_Name_kw (thn ((pe_var (pos := p1) (i := i) hN hv hd hcd).run pins s σ H (fun v H1 => v = .ref f ∧ H1 = H) I ⟨.ref f, hs, rfl, rfl⟩) fun u s1 ⟨v, H1, I1, r1, q1⟩ => ?_)
  obtain ⟨ev, eH⟩ := q1
  subst ev
  rw [eH] at I1
  obtain rfl : u = Value.ref f := r1
  refine PySem.W.callWith_F0 (ok.fn H _ I1.hok hf) ?_
  refine wpAny_call (codeAny_mono (ok.run X.A X.stack s1 H Q E hr I1.env0 hf q) fun r s' hq => ?_)
  cases r with
  | error e => exact hx pins σ H s1 e s' I1 hq
  | ok fl =>
    cases fl with
    | ret u => exact I1.after hq
    | next => exact False.elim hq
    | brk => exact False.elim hq
    | cont => exact False.elim hq
/-! ### a lambda by its body -/
abbrev lamFd (name qual : Str) (params : Arguments) (body : Expr) (scope : Scope) (cl : List (Str × Addr)) (dV doc pm : Value) (c' : Addr) (ct : Value) : FuncData :=
  { name, qualname := qual, params, body := .expr body, scope, globals := mainGlobals, closure := cl, defaults := dV, kwdefaults := .none, doc, pyModule := pm, annotations := none, code := .ref c', closureTuple := ct, builtins := builtinsNs }
def FunO (f : Addr) (fd : FuncData) : HO := .ext fun h => ∃ (od : Option Addr) (sl : Array (Option Value)), h.get? f = some (⟨.type "function", od, .func fd, sl⟩ : Obj)
open NdefX LamX in
theorem ask_of {P : Program} {w : World} {K : PySem.W.Frag} {mg : Str → Option Value} {base : Heap} {k : Nat} {f c' : Addr} {name qual : Str} {params : Arguments} {body : Expr} {scope : Scope} {cl : List (Str × Addr)} {dV doc pm ct : Value} {cs : List (Addr × Obj)} {N ps fr : List Str} {us : List Value} {vs : List V} {ws : List (Option V)} {fs : List (Addr × HO)} {sp : Hp → VK → XK → Prop}
    (S : NScope N ps fr scope) (m1 : (f, FunO f (lamFd name qual params body scope cl dV doc pm c' ct)) ∈ fs) (m2 : (c', CodeO c' qual) ∈ fs) (m3 : ∀ b o, cs.lookup b = some o → (b, CelO b o) ∈ fs)
    (len : ws.length = fr.length) (inj : ∀ x y c, cl.lookup x = some c → cl.lookup y = some c → x = y) (all : ∀ y c, cl.lookup y = some c → ∃ o v, cs.lookup c = some o ∧ o.data = .cell v)
    (has : ∀ (i : Nat) (y : Str), fr[i]? = some y → ∃ c o, cl.lookup y = some c ∧ cs.lookup c = some o ∧ ∀ v, ws[i]? = some (some v) → ∃ u, L2.RelV v u ∧ o.data = .cell (some u))
    (hbind : ∀ (s : Shared) (H : Hp), HOk P w H s.heap → (∀ p ∈ fs, H p.1 = some p.2) → BindsTo s (lamFd name qual params body scope cl dV doc pm c' ct) ⟨[], []⟩ (ps.zip us)) (hvs : Vals vs us) (hl : vs.length = ps.length)
    (hrun : ∀ (A : Around) (outer : List Env) (s : Shared) (H : Hp) (Q : VK) (E : XK), Room k (A.deeper (envF ⟨name, qual, params, [], scope, cl, c'⟩ f s.heap.objs.size)) → (∀ p ∈ fs, H p.1 = some p.2) → sp H Q E →
      ∃ tb, PE (ncx (L2.CX P w) P w K mg base N ⟨name, qual, params, [], scope, cl, c'⟩ f A outer s (unl H cs) (fun cls d H' => E cls d (lend H' cs))) body tb ∧ tb (startF N vs ws) (unl H cs) (fun v H' => Q v (lend H' cs))) :
    AskOk P w K mg base (L2.CX P w) (k + 1) f fs sp := by
  refine ⟨fun H h hok hf => ?_, fun A outer s H Q E hr e0 hf q => ?_⟩
  · have x : ObjOk P w H h f (FunO f (lamFd name qual params body scope cl dV doc pm c' ct)) := hok f _ (hf _ m1)
    obtain ⟨⟨od, sl, ho⟩, _, _⟩ := x
    exact ⟨_, _, _, _, ho⟩
  · have ins : Ins H cs := fun b o z => hf _ (m3 b o z)
    have nf : ∀ b o, cs.lookup b = some o → b ∉ frs outer := fun b o z hb => by
      have y := e0.frf b hb
      rw [ins b o z] at y
      cases y
    have e1 := env0_unl e0 ins
    have lim : s.heap.NoLimit := e0.mod.nolimit.keeps fun b o e => (e0.bs b o e).1
    have C : CellsAt cl fr ws s.heap (unl H cs) := by
      refine ⟨len, fun y c e => ?_, inj, fun i y e => ?_⟩
      · obtain ⟨o, v, h1, h2⟩ := all y c e
        exact ⟨unl_in h1, v, o, cel_at e0.hok (ins c o h1), h2⟩
      · obtain ⟨c, o, h1, h2, h3⟩ := has i y e
        refine ⟨c, h1, fun v z => ?_⟩
        obtain ⟨u, r, hd⟩ := h3 v z
        exact ⟨u, r, o, cel_at e0.hok (ins c o h2), hd⟩
    have x : ObjOk P w H s.heap f (FunO f (lamFd name qual params body scope cl dV doc pm c' ct)) := e0.hok f _ (hf _ m1)
    obtain ⟨⟨od, sl, ho⟩, _, _⟩ := x
    have hcr := codeO_at e0.hok (hf _ m2)
    obtain ⟨tb, ht, hq⟩ := hrun A outer s H Q E (hr.deeper _) hf q
    refine codeAny_mono (R := CR (L2.CX P w) outer P w (unl H cs) s (fun v H' => Q v (lend H' cs)) (fun cls d H' => E cls d (lend H' cs))) ?_ (fun r s' hq => ?_)
    · refine PySem.W.kla_callFunE hr.depth ho rfl S.co S.gen rfl hcr ?_
      refine hbind s H e0.hok hf _ _ _ _ ?_
      refine wpAny_newFunctionEnv S.nocell (fun ⟨n, _⟩ hy => S.par n (List.of_mem_zip hy).1) (fun h₁ hns hsb => ⟨lim.fresh _ hsb, ?_⟩) S.kind
      show codeAny _ _ (.expr body (envF ⟨name, qual, params, [], scope, cl, c'⟩ f s.heap.objs.size)) _ _
      have kp : ∀ b o, s.heap.get? b = some o → h₁.get? b = some o := fun b o e => hsb.extBut b o (Nat.ne_of_lt (Heap.lt_size e)) (Heap.get?_push_of_some _ e)
      have I : Inv (ncx (L2.CX P w) P w K mg base N ⟨name, qual, params, [], scope, cl, c'⟩ f A outer s (unl H cs) (fun cls d H' => E cls d (lend H' cs))) [] (startF N vs ws) (unl H cs) { s with heap := h₁, toks := s.toks + (ps.zip us).length } :=
        inv_startN (F := ⟨name, qual, params, [], scope, cl, c'⟩) S hr.hd e1 hl hvs C hns kp
      refine PySem.W.kla_codeExpr (wpAny_mono (ht.run [] _ (startF N vs ws) (unl H cs) _ I hq) (fun v s' hs => ?_) fun e s' hs => hs)
      obtain ⟨y, H', J, rv, q⟩ := hs
      exact ⟨y, H', J.os, J.bare, J.base, J.hok, rv, q⟩
    · cases r with
      | error e => exact cx_in hq e0.hok ins nf
      | ok fl =>
        cases fl with
        | ret u => exact ce_in hq e0.hok ins nf
        | next => exact False.elim hq
        | brk => exact False.elim hq
        | cont => exact False.elim hq
/-! ### a lambda is made -/
open NdefX LamX
section
variable {X : Cx} {pins : List (Addr × Obj)} {σ : L2.St} {H : Hp} {s : Shared}
theorem fun_laid {fd : FuncData} {t' : Nat} (I : Inv X pins σ H s) : Inv X pins σ (upd H s.heap.objs.size (FunO s.heap.objs.size fd)) { s with heap := s.heap.push { cls := .type "function", data := .func fd }, toks := t' } := by
  have e : (s.heap.push ({ cls := .type "function", data := .func fd } : Obj)).get? s.heap.objs.size = some ({ cls := .type "function", data := .func fd } : Obj) := Heap.get?_push_size _ rfl
  exact I.laid (fun b u e => Heap.get?_push_of_some _ e) (Nat.le_refl _) ⟨⟨_, _, e⟩, ⟨_, e⟩, fun h1 h2 ⟨od, sl, z⟩ st => ⟨od, sl, st _ z⟩⟩
/-- what is known behind: f is the new lambda, c' its code object; all that was tracked stays, tables may have grown -/
structure Made (H H1 : Hp) (T : List (Addr × Str)) (f c' : Addr) (q : Str) (fd : FuncData) : Prop where
  ext : ExtN H H1
  non : ∀ b, H1 b = none → H b = none
  tabs : Tabs T H1
  new : H f = none
  fn : H1 f = some (FunO f fd)
  code : H1 c' = some (CodeO c' q)
theorem lam_tail {T : List (Addr × Str)} {c P : Addr} {params : Arguments} {body : Expr} {scope : Scope} {pos : Pos} {dV : Value} {E : Value → Shared → Prop} {Q : Value → Shared → Prop} (I : Inv X pins σ H s) (TB : TabB X.base X.mg c P) (hcode : X.env.code = .ref c)
    (hm : (P, X.env.qual ++ "<lambda>") ∈ T) (hu : ∀ p ∈ T, p.1 = P → p.2 = X.env.qual ++ "<lambda>") (hT : Tabs T H) (hfree : ∀ y ∈ scope.names, y.2 = .free → ∃ c, X.env.cells.lookup y.1 = some c)
    (h : ∀ (f c' : Addr) (doc pm ct : Value) (H1 : Hp) (s' : Shared), Inv X pins σ H1 s' → Made H H1 T f c' (X.env.qual ++ "<lambda>") (lamFd "<lambda>" (X.env.qual ++ "<lambda>") params body scope (cloFrom X.env.cells scope.names []) dV doc pm c' ct) → Q (.ref f) s') :
    wpAny (model X.prog X.w) X.A (makeTail "<lambda>" (X.env.qual ++ "<lambda>") params (.expr body) scope X.env dV .none none pos pos.line) Q E s := by
  obtain ⟨ps, hP, ht, ha⟩ := hT _ hm
  have bP : s.heap.BuiltinsAt X.mg P := TB.bm.keeps I.bk
  have hP' : s.heap.get? P = some { cls := .none, data := .fields ps } := I.hok P _ hP
  have glob := I.mod.glob.keeps I.bk
  cases hc : codeAmong pos ps.toList with
  | some cv =>
    obtain ⟨c', rfl, hco⟩ := ha pos cv hc
    refine PySem.W.kdv_makeTailHit (closure_ok hfree) I.ok.glob glob hcode (TB.code.keeps I.bk) hP' ht hc bP fun ct doc h' tk hx hsz => ?_
    have I1 : Inv X pins σ H { s with heap := h', toks := tk } := I.kept hx
    have nF : H h'.objs.size = none := I1.hok.fresh (Nat.le_refl _)
    have up : ∀ b o, H b = some o → upd H h'.objs.size (FunO h'.objs.size (lamFd "<lambda>" (X.env.qual ++ "<lambda>") params body scope (cloFrom X.env.cells scope.names []) dV doc ((X.mg "__name__").getD .none) c' ct)) b = some o := fun b o e => by
      rw [upd_ne (ne_of_none e nF)]
      exact e
    exact h _ c' doc _ ct _ _ (fun_laid I1) ⟨ExtN.of up, fun b e => upd_none e, hT.ext up, nF, upd_same, up _ _ hco⟩
  | none =>
    refine PySem.W.kdv_makeTail (closure_ok hfree) I.ok.glob glob hcode (TB.code.keeps I.bk) hP' ht hc TB.gP bP fun c' ct doc h' tk hx hge hlt hrec htb => ?_
    obtain ⟨_, oc, vs, t, e2, hoc, hd, hv⟩ := hrec
    cases e2
    have nC : H c' = none := I.hok.fresh hge
    have I1 := inv_table (t' := tk) (more := #[rawInt pos.line, rawInt pos.col, .ref c']) (h' := h') I hP (fun b o hb e => hx b o hb e) htb hge ⟨oc, vs, t, hoc, hd, hv⟩
    have nF := I1.hok.fresh (Nat.le_refl _)
    have atC : upd (upd H P (.tbl (ps ++ #[rawInt pos.line, rawInt pos.col, .ref c']))) c' (CodeO c' (X.env.qual ++ "<lambda>")) c' = some (CodeO c' (X.env.qual ++ "<lambda>")) := upd_same
    have eN : ExtN H (upd (upd H P (.tbl (ps ++ #[rawInt pos.line, rawInt pos.col, .ref c']))) c' (CodeO c' (X.env.qual ++ "<lambda>"))) := fun b o e n => by
      have hb : b ≠ P := fun z => by
        rw [z, hP] at e
        exact n ps (Option.some.inj e).symm
      rw [upd_ne (ne_of_none e nC), upd_ne hb]
      exact e
    have T1 : Tabs T (upd (upd H P (.tbl (ps ++ #[rawInt pos.line, rawInt pos.col, .ref c']))) c' (CodeO c' (X.env.qual ++ "<lambda>"))) := fun p hp => by
      by_cases hb : p.1 = P
      · rw [hu p hp hb, hb]
        refine ⟨ps ++ #[rawInt pos.line, rawInt pos.col, .ref c'], by rw [upd_ne (ne_of_none hP nC), upd_same], ?_, fun p' cv hcv => ?_⟩
        · rw [Array.toList_append]
          exact PySem.TriplesOk_snoc _ _ _ _ ht
        · rw [Array.toList_append] at hcv
          rcases among_app _ ht hcv with z | z
          · obtain ⟨c0, e1, e2⟩ := ha p' cv z
            exact ⟨c0, e1, eN _ _ e2 codeO_ne⟩
          · exact ⟨c', z, atC⟩
      · obtain ⟨ps', a1, a2, a3⟩ := hT p hp
        refine ⟨ps', by rw [upd_ne (ne_of_none a1 nC), upd_ne hb]; exact a1, a2, fun p' cv hcv => ?_⟩
        obtain ⟨c0, e1, e2⟩ := a3 p' cv hcv
        exact ⟨c0, e1, eN _ _ e2 codeO_ne⟩
    have up : ∀ b o, upd (upd H P (.tbl (ps ++ #[rawInt pos.line, rawInt pos.col, .ref c']))) c' (CodeO c' (X.env.qual ++ "<lambda>")) b = some o → upd (upd (upd H P (.tbl (ps ++ #[rawInt pos.line, rawInt pos.col, .ref c']))) c' (CodeO c' (X.env.qual ++ "<lambda>"))) h'.objs.size (FunO h'.objs.size (lamFd "<lambda>" (X.env.qual ++ "<lambda>") params body scope (cloFrom X.env.cells scope.names []) dV doc ((X.mg "__name__").getD .none) c' ct)) b = some o := fun b o e => by
      rw [upd_ne (ne_of_none e nF)]
      exact e
    exact h _ c' doc _ ct _ _ (fun_laid I1) ⟨fun b o e n => up b o (eN b o e n), fun b e => upd_none (upd_none (upd_none e)), T1.ext up, I.hok.fresh (Nat.le_trans hge (Nat.le_of_lt hlt)), upd_same, up _ _ atC⟩
/-- what a lambda keeps of its default: nothing, or a pair's first -/
def DefsAt (H : Hp) (dV : Value) : List V → Prop
  | [] => dV = .none
  | ds => ∃ t : Addr, dV = .ref t ∧ H t = some (.tup ds)
/-- the reading of a lambda with these defaults' values, in H -/
def LamQ (T : List (Addr × Str)) (q : Str) (params : Arguments) (body : Expr) (scope : Scope) (cl : List (Str × Addr)) (ds : List V) (H : Hp) (Q : VK) : Prop :=
  Tabs T H ∧ ∀ (f c' : Addr) (dV doc pm ct : Value) (H1 H2 : Hp), (∀ b o, H b = some o → H1 b = some o) → (∀ b, H1 b = none → H b = none) → Made H1 H2 T f c' q (lamFd "<lambda>" q params body scope cl dV doc pm c' ct) → DefsAt H2 dV ds → Q (.ref f) H2
theorem pe_lam0 {T : List (Addr × Str)} {c P : Addr} {params : Arguments} {body : Expr} {scope : Scope} {pos : Pos} (TB : TabB X.base X.mg c P) (hcode : X.env.code = .ref c) (hm : (P, X.env.qual ++ "<lambda>") ∈ T) (hu : ∀ p ∈ T, p.1 = P → p.2 = X.env.qual ++ "<lambda>")
    (hfree : ∀ y ∈ scope.names, y.2 = .free → ∃ c, X.env.cells.lookup y.1 = some c) (hdef : defaultsOf params X.env = ([], [])) :
    PE X (.Lambda params body scope pos) (fun _ H Q => LamQ T (X.env.qual ++ "<lambda>") params body scope (cloFrom X.env.cells scope.names []) [] H Q) := by
  refine ⟨fun pins s σ H Q I h => PySem.W.kla_eval hdef ?_⟩
  rw [makeFunction_eq]
  simp only [List.zip_nil_right, List.filterMap_nil, List.isEmpty_nil, if_true, pure_bind]
  exact lam_tail I TB hcode hm hu h.1 hfree fun f c' doc pm ct H1 s' I1 M => ⟨.ref f, H1, I1, rfl, h.2 f c' .none doc pm ct H H1 (fun _ _ e => e) (fun _ e => e) M rfl⟩
theorem pe_lam1 {T : List (Addr × Str)} {c P : Addr} {params : Arguments} {e : Expr} {te : TE} {body : Expr} {scope : Scope} {pos : Pos} (TB : TabB X.base X.mg c P) (hcode : X.env.code = .ref c) (hm : (P, X.env.qual ++ "<lambda>") ∈ T) (hu : ∀ p ∈ T, p.1 = P → p.2 = X.env.qual ++ "<lambda>")
    (hfree : ∀ y ∈ scope.names, y.2 = .free → ∃ c, X.env.cells.lookup y.1 = some c) (hd : params.defaults = [e]) (hk0 : params.kw_defaults = []) (he : PE X e te) :
    PE X (.Lambda params body scope pos) (fun σ H Q => te σ H fun x H1 => LamQ T (X.env.qual ++ "<lambda>") params body scope (cloFrom X.env.cells scope.names []) [x] H1 Q) := by
  refine ⟨fun pins s σ H Q I h => PySem.W.kdv_lam (by rw [hd]; rfl) hk0 ?_⟩
  rw [hd]
  refine PySem.W.kdv_all1 (thn (he.run pins s σ H _ I h) fun v s1 ⟨x, H1, I1, r1, q⟩ => PySem.W.kdv_all0 ?_)
  rw [makeFunction_eq]
  simp only [List.zip_nil_right, List.filterMap_nil, List.isEmpty_nil, List.isEmpty_cons, Bool.false_eq_true, if_false, if_true, pure_bind]
  refine wpAny_bind (wpAny_newTextTuple ?_)
  have hn : H1 s1.heap.objs.size = none := I1.hok.fresh (Nat.le_refl _)
  have ht : (s1.heap.push ({ cls := .type "tuple", data := .seq [v].toArray } : Obj)).get? s1.heap.objs.size = some ({ cls := .type "tuple", data := .seq [v].toArray } : Obj) := Heap.get?_push_size _ rfl
  have I2 : Inv X pins σ (upd H1 s1.heap.objs.size (.tup [x])) { s1 with heap := s1.heap.push ({ cls := .type "tuple", data := .seq [v].toArray } : Obj), toks := s1.toks } :=
    I1.laid (fun b u e => Heap.get?_push_of_some _ e) (Nat.le_refl _) ⟨by show 1 ≤ sizeLine; decide, [v], .cons r1 .nil, _, ht, rfl, _, rfl⟩
  have up : ∀ b o, H1 b = some o → upd H1 s1.heap.objs.size (.tup [x]) b = some o := fun b o e => by
    rw [upd_ne (ne_of_none e hn)]
    exact e
  exact lam_tail I2 TB hcode hm hu (q.1.ext up) hfree fun f c' doc pm ct H2 s' I3 M => ⟨.ref f, H2, I3, rfl, q.2 f c' _ doc pm ct _ H2 up (fun b e => upd_none e) M ⟨_, rfl, M.ext _ _ upd_same (fun ps z => by cases z)⟩⟩
/-! ### a call to which the cells are lent -/
/-- cs: cells of one's own, those of ys among them, with what the names hold -/
structure CellV (X : Cx) (σ : L2.St) (ys : List Str) (cs : List (Addr × Obj)) : Prop where
  own : ∀ b o, cs.lookup b = some o → ∃ y, X.env.cells.lookup y = some b ∧ X.fn y = true
  val : ∀ y ∈ ys, ∃ (c : Addr) (o : Obj) (i : Nat) (v : V) (u : Value), X.env.cells.lookup y = some c ∧ cs.lookup c = some o ∧ X.N[i]? = some y ∧ σ[i]? = some (some v) ∧ L2.RelV v u ∧ o.data = .cell (some u)
theorem cellv_of (I : Inv X pins σ H s) : ∀ ys : List Str, (∀ y ∈ ys, ∃ (i : Nat) (v : V), X.N[i]? = some y ∧ σ[i]? = some (some v) ∧ X.env.scope.names.lookup y = some .cell ∧ X.fn y = true) → ∃ cs, CellV X σ ys cs ∧ Outs H s.heap cs
  | [], _ => ⟨[], ⟨(fun _ _ e => by cases e), fun _ m => nomatch m⟩, fun _ _ e => by cases e⟩
  | y :: ys, h => by
    obtain ⟨cs, V1, O1⟩ := cellv_of I ys fun z m => h z (List.mem_cons_of_mem _ m)
    obtain ⟨i, v, hN, hv, hk, hf⟩ := h y List.mem_cons_self
    obtain ⟨m, _, hl⟩ := I.loc
    obtain ⟨u, r, q⟩ := hl i y v hN hv (.inr (.inl hk))
    have hk' : X.env.kindOf y = some .cell := hk
    rcases q with ⟨k', _⟩ | ⟨_, c, hc, o, ho, hd⟩
    · rw [show X.env.scope.names.lookup y = some .local from k'] at hk
      cases hk
    · have n : H c = none := I.freeC y c hc
      have at_ : ∀ b, ((c, o) :: cs).lookup b = if b = c then some o else cs.lookup b := fun b => by
        by_cases e : b = c
        · subst e
          simp [List.lookup]
        · have e' : (b == c) = false := by simpa using e
          rw [if_neg e]
          simp [List.lookup, e']
      refine ⟨(c, o) :: cs, ⟨fun b o' e => ?_, fun z mz => ?_⟩, fun b o' e => ?_⟩
      · rw [at_] at e
        split at e
        · rename_i eb
          rw [eb]
          exact ⟨y, hc, hf⟩
        · exact V1.own b o' e
      · rcases List.mem_cons.mp mz with e | mz
        · rw [e]
          exact ⟨c, o, i, v, u, hc, by rw [at_, if_pos rfl], hN, hv, r, hd⟩
        · obtain ⟨c2, o2, i2, v2, u2, h1, h2, h3, h4, h5, h6⟩ := V1.val z mz
          refine ⟨c2, o2, i2, v2, u2, h1, ?_, h3, h4, h5, h6⟩
          rw [at_]
          split
          · rename_i eb
            have z1 := (O1 c2 o2 h2).1
            rw [eb, ho] at z1
            rw [Option.some.inj z1]
          · exact h2
      · rw [at_] at e
        split at e
        · rename_i eb
          rw [← Option.some.inj e, eb]
          exact ⟨ho, n⟩
        · exact O1 b o' e
/-- the reading of a call to which the cells of ys are lent -/
def tCallL (X : Cx) (ys : List Str) (sp : Sp) (dvs : List V) (t : TA) : TE := fun σ H Q => t σ H fun vs H1 => (∀ y ∈ ys, ∃ (i : Nat) (v : V), X.N[i]? = some y ∧ σ[i]? = some (some v) ∧ X.env.scope.names.lookup y = some .cell ∧ X.fn y = true) ∧
  ∀ cs, CellV X σ ys cs → (∀ b o, cs.lookup b = some o → H1 b = none) → sp (vs ++ dvs) (lend H1 cs) (fun v H2 => Ins H2 cs ∧ Q v (unl H2 cs)) C8.E0
theorem pe_callL {k : Nat} {f : Addr} {fd : FuncData} {ps : List Str} {sp : Sp} {dvs : List V} {ds : List Value} {x : Str} {p pos : Pos} {e : Expr} {es : List Expr} {t : TA} (ys : List Str) (F : FnOk X.prog X.w X.K X.mg X.base C8.CX0 k f fd ps sp) (hr : Room k X.A) (hg : Gl X x) (hm : X.mg x = some (.ref f)) (hk : PySem.W.keepIn X.K (.ref f) = true) (hb : Binds X.K fd ps ds) (hd : Vals dvs ds)
    (ha : PA X (e :: es) t) (hdb : (x == ("__debug__" : Str)) = false := by decide) (he : starEach (e :: es) X.env = (false, eval e X.env) :: starEach es X.env := by rfl) (hpl : (backTo pos (starEach es X.env)).any (·.1) = false := by rfl) :
    PE X (.Call (.Name x p) (e :: es) [] pos) (tCallL X ys sp dvs t) := by
  refine ⟨fun pins s σ H Q I h => ?_⟩
  refine wpAny_Call_Name_kw (ld_glob I hg hm ?_ hdb)
  refine PySem.W.callWith_K (h₀ := X.base) I.ok.mod.kin hk (thn (ha.run pos pins s σ H _ I h) fun us s1 ⟨vs, H1, I1, r, hy, q⟩ => ⟨I1.kIn, ?_⟩) he hpl
  obtain ⟨cs, V1, O1⟩ := cellv_of I1 ys hy
  have q1 := q cs V1 fun b o z => (O1 b o z).2
  have big : ∀ b o, cs.lookup b = some o → X.s_0.heap.objs.size ≤ b ∧ b ≠ X.env.locals := fun b o z => by
    obtain ⟨y, hc, hf⟩ := V1.own b o z
    exact ⟨I1.ok.cab y b hf hc, I1.cne y b hc⟩
  have e1 := env0_lend I1.env0 O1 (fun b o z => by
    cases e : X.base.get? b with
    | none => rfl
    | some v => exact absurd (Nat.lt_of_lt_of_le (Heap.lt_size e) (Nat.le_trans I1.ok.bsz (big b o z).1)) (Nat.lt_irrefl _)) (fun b o z hb => by
    rcases List.mem_cons.mp (I1.stkSub b hb) with e | hb
    · exact (big b o z).2 e
    · obtain ⟨_, v, ho, _⟩ := I1.ok.funs.mem hb
      exact absurd (Nat.lt_of_lt_of_le (Heap.lt_size ho) (big b o z).1) (Nat.lt_irrefl _))
  have r2 : Vals (vs ++ dvs) (us ++ ds) := r.append hd
  have hl : (us ++ ds).length = ps.length := by
    rw [← r2.length]
    exact F.len _ _ _ _ q1
  refine wpAny_call (codeAny_mono (F.run X.A X.stack s1 (lend H1 cs) ⟨us, []⟩ (us ++ ds) (vs ++ dvs) _ _ hr e1 (hb s1 us I1.kIn hl) r2 q1) fun r s' hq => ?_)
  cases r with
  | error e => exact hq.elim
  | ok fl =>
    cases fl with
    | ret u => exact I1.after (ce_out hq O1)
    | next => exact False.elim hq
    | brk => exact False.elim hq
    | cont => exact False.elim hq
end
end Lend
namespace Lend
open PySem PySem.Spec PyProof.Rows L2
/-! ### a caught error handed on: the reading of its fields -/
/-- the reading of e.n -/
def tErf (K : PySem.W.Frag) (n : Str) (te : TE) : TE := fun σ H Q => te σ H fun x H1 => ∃ (a C d : Addr) (fs : List (Str × V)) (v : V), x = .ref a ∧ XfC K C ∧ PySem.W.findIn K (.ref C) n = some none ∧ (∃ oe vs, H1 a = some (CelO a oe) ∧ Zc (.ref C) (some d) oe ∧ oe.data = .fields vs) ∧ H1 d = some (.xd fs) ∧ fs.lookup n = some v ∧ Q v H1
theorem pe_erf {X : Cx} {e : Expr} {te : TE} {pos : Pos} {n : Str} (he : PE X e te) (hb : attributeBase e n X.env (eval e X.env) = eval e X.env := by rfl) : PE X (.Attribute e n pos) (tErf X.K n te) := by
  refine ⟨fun pins s σ H Q I h => attr_of hb (thn (he.run pins s σ H _ I h) fun u s1 hh => ?_)⟩
  obtain ⟨x, H1, I1, rx, a, C, d, fs, v, rfl, T, hno, ⟨oe, vs, ha, hz, hf⟩, hd, l, q⟩ := hh
  obtain rfl : u = Value.ref a := rx
  have he' := cel_at I1.hok ha
  have xd : ObjOk X.prog X.w H1 s1.heap d (.xd fs) := I1.hok d _ hd
  obtain ⟨mA, hns, hr⟩ := xd
  obtain ⟨od, ho, hl⟩ := lookIn_ns hns
  have hv : RelO (some v) (mA n) := by
    have z := hr n
    rw [l] at z
    exact z
  obtain ⟨w, hw, rw_⟩ := RelO.some_of (v := v) (o := mA n) hv
  have J : PySem.W.InstAt s1.heap a oe C (some od) := ⟨he', hz.1, by unfold PySem.W.notCls; rw [hf] <;> rfl, by rw [hz.2]; exact ho⟩
  exact HandSPX.exc_get I1.kIn J T.ga T.gg T.exC (PySem.W.findObj_own T.hdC hno rfl (by rw [hl, hw])) (handed_of rw_) ⟨v, H1, I1.tok _, rw_, q⟩
/-- the reading of a call to which a pinned object is lent -/
def tCallP (a : Addr) (oe : Obj) (sp : Sp) (dvs : List V) (t : TA) : TE := fun σ H Q => t σ H fun vs H1 => H1 a = none → sp (vs ++ dvs) (lend H1 [(a, oe)]) (fun v H2 => Ins H2 [(a, oe)] ∧ Q v (unl H2 [(a, oe)])) C8.E0
theorem pe_callP {X : Cx} {k : Nat} {f a : Addr} {oe : Obj} {fd : FuncData} {ps : List Str} {sp : Sp} {dvs : List V} {ds : List Value} {x : Str} {p pos : Pos} {e : Expr} {es : List Expr} {t : TA} (hp : (a, oe) ∈ X.pn) (nB : X.base.get? a = none) (F : FnOk X.prog X.w X.K X.mg X.base C8.CX0 k f fd ps sp) (hr : Room k X.A) (hg : Gl X x) (hm : X.mg x = some (.ref f)) (hk : PySem.W.keepIn X.K (.ref f) = true) (hb : Binds X.K fd ps ds) (hd : Vals dvs ds)
    (ha : PA X (e :: es) t) (hdb : (x == ("__debug__" : Str)) = false := by decide) (he : starEach (e :: es) X.env = (false, eval e X.env) :: starEach es X.env := by rfl) (hpl : (backTo pos (starEach es X.env)).any (·.1) = false := by rfl) :
    PE X (.Call (.Name x p) (e :: es) [] pos) (tCallP a oe sp dvs t) := by
  refine ⟨fun pins s σ H Q I h => ?_⟩
  refine wpAny_Call_Name_kw (ld_glob I hg hm ?_ hdb)
  refine PySem.W.callWith_K (h₀ := X.base) I.ok.mod.kin hk (thn (ha.run pos pins s σ H _ I h) fun us s1 ⟨vs, H1, I1, r, q⟩ => ⟨I1.kIn, ?_⟩) he hpl
  obtain ⟨h1, h2, h3, h4, _⟩ := I1.pin (a, oe) (List.mem_append_left _ hp)
  have one : ∀ b o, ([(a, oe)] : List (Addr × Obj)).lookup b = some o → b = a ∧ o = oe := fun b o z => by
    simp only [List.lookup] at z
    split at z
    · rename_i w
      exact ⟨eq_of_beq w, (Option.some.inj z).symm⟩
    · cases z
  have O1 : Outs H1 s1.heap [(a, oe)] := fun b o z => by
    obtain ⟨rfl, rfl⟩ := one b o z
    exact ⟨h1, h2⟩
  have e1 := env0_lend I1.env0 O1 (fun b o z => by
    obtain ⟨rfl, rfl⟩ := one b o z
    exact nB) (fun b o z hb => by
    obtain ⟨rfl, rfl⟩ := one b o z
    rcases List.mem_cons.mp (I1.stkSub _ hb) with e | hb
    · exact h3 e
    · exact h4 hb)
  have q1 := q h2
  have r2 : Vals (vs ++ dvs) (us ++ ds) := r.append hd
  have hl : (us ++ ds).length = ps.length := by
    rw [← r2.length]
    exact F.len _ _ _ _ q1
  refine wpAny_call (codeAny_mono (F.run X.A X.stack s1 (lend H1 [(a, oe)]) ⟨us, []⟩ (us ++ ds) (vs ++ dvs) _ _ hr e1 (hb s1 us I1.kIn hl) r2 q1) fun r s' hq => ?_)
  cases r with
  | error e => exact hq.elim
  | ok fl =>
    cases fl with
    | ret u => exact I1.after (ce_out hq O1)
    | next => exact False.elim hq
    | brk => exact False.elim hq
    | cont => exact False.elim hq
end Lend
namespace Kk
open PySem L2 PyProof.Rows

end Kk
namespace Lend
open PySem PySem.Spec PyProof.Rows L2
/-! ### try: .. except (A, B) as n: .. -/
theorem fly_more {B h h' : Heap} {l : List Env} {e : Addr} {Z : Obj → Prop} (f : HandSPX.FlyingZ B l e Z h) (k : ∀ b o, h.get? b = some o → h'.get? b = some o) : HandSPX.FlyingZ B l e Z h' := by
  obtain ⟨f1, f2, f3, oe, vs, T, oT, ts, a1, a2, a3, a4, a5, a6, a7, a8, a9⟩ := f
  exact ⟨fun b o e => k b o (f1 b o e), f2, Heap.FunFrames.of_keeps (fun b o e _ => ⟨o, k b o e, rfl⟩) f3, oe, vs, T, oT, ts, k _ _ a1, a2, a3, a4, a5, a6, k _ _ a7, a8, a9⟩
/-- what the clause wishes of an exception of the body: it is one of both; then the suite with it at slot i -/
def wTup (K : PySem.W.Frag) (c1 c2 : Value) (i : Nat) (ts : Addr → Obj → Value → Option Addr → TS) (D : Ends) : WX := fun cls d σ H => PySem.W.exmAny K cls [c1, c2] = some true ∧
  ∀ a oe, H a = none → ts a oe cls d { nx := fun σ' H' => D.nx (σ'.set i none) H', rt := D.rt, bk := fun σ' H' => D.bk (σ'.set i none) H', ct := fun σ' H' => D.ct (σ'.set i none) H' } (σ.set i (some (.ref a))) H
section
variable {X : Cx} {x1 x2 n : Str} {c1 c2 : Value} {i : Nat} {body suite : List Stmt} {b₀ : Stmt} {q1 q2 tp pos pos' : Pos} {kk : Nat} {tb : WX → TS} {ts : Addr → Obj → Value → Option Addr → TS}
theorem named {x : Str} {c : Value} {q : Pos} {pins : List (Addr × Obj)} {σ : L2.St} {H : Hp} {s : Shared} {Q : Value → Shared → Prop} {E : Value → Shared → Prop} {a : Addr} {pn : List (Addr × Obj)} (hc : Names X x c) (S : Inv (X.suite a pn) pins σ H s) (h : Q c s) :
    wpAny (model X.prog X.w) (X.A.mark (some (.ref a))) (eval (.Name x q) X.env) Q E s := by
  obtain ⟨hg, hd, hm | ⟨hm, hv, hn⟩⟩ := hc
  · exact ld_glob (X := X.suite a pn) S hg hm h hd
  · exact ld_blt (X := X.suite a pn) S hg hm hv h hn hd
theorem ps_try_tup (hs : X.stack = X.env :: X.outer) (hf : X.env.frame = some X.env.locals) (hN : X.N.Nodup) (hi : X.N[i]? = some n) (hln : X.env.kindOf n = some .local) (hc1 : Names X x1 c1) (hc2 : Names X x2 c2)
    (hb : ∀ (W : WX) (pn : List (Addr × Obj)) (xe : Value → Shared → Prop), Takes (X.tr pn xe) W → PassesOwn (model X.prog X.w) X.A X.env xe → PSs (X.tr pn xe) body (tb W))
    (hsu : ∀ (a : Addr) (oe : Obj) (cls : Value) (d : Option Addr) (pn : List (Addr × Obj)), Zc cls d oe → (∃ vs, oe.data = .fields vs) → X.base.get? a = none → PSs (X.suite a ((a, oe) :: pn)) (b₀ :: suite) (ts a oe cls d)) :
    PS X (.Try body [.ExceptHandler (some (.Tuple [.Name x1 q1, .Name x2 q2] kk tp)) (some n) (b₀ :: suite) pos'] [] [] pos) (fun D σ H => tb (wTup X.K c1 c2 i ts D) D σ H) := by
  refine ⟨fun pins s σ H D I h => wpAny_Try_except ?_⟩
  have ok := I.ok
  have over : X.A.frames = some (X.env :: X.outer) := ok.frames.trans (congrArg some hs)
  refine wpAny_mono ((hb (wTup X.K c1 c2 i ts D) (X.pn ++ pins) _ (fun u s' xx => ?_) PassesOwn.looking).run [] s σ H D (I.toTry _) h) (fun f s1 hsp => ?_) (fun e s1 he => he)
  · obtain ⟨a, B, sI, pins', σ', H', cls, d, rfl, J', nb, up, sky, na, os, ag, hm, go⟩ := xx
    have J : Inv X pins σ' H' sI := J'.ofTry ok
    refine Sky.land Zc.steady over hf (hs ▸ sky) fun h3 fl3 up3 => ?_
    have J3 : Inv X pins σ' H' { s' with heap := h3 } := J.landed nb fl3.1 (up.trans up3) os ag
    have apart : ∀ b ∈ frs (X.env :: X.outer), b ≠ a := fun b hb e => by
      obtain ⟨oe, vs, he, _, hd⟩ := fl3.there
      obtain ⟨_, o, ho, hn⟩ := fl3.2.2.1.mem hb
      rw [e, he] at ho
      exact hn vs (Option.some.inj ho ▸ hd)
    have nL : a ≠ X.env.locals := fun e => apart _ (List.mem_filterMap.mpr ⟨X.env, List.mem_cons_self, hf⟩) e.symm
    have nF : a ∉ X.fs := fun hm => by
      obtain ⟨e, he, q⟩ := List.mem_filterMap.mp hm
      exact apart a (List.mem_filterMap.mpr ⟨e, List.mem_cons_of_mem _ he, q⟩) rfl
    have nB : X.base.get? a = none := by
      cases e : X.base.get? a with
      | none => rfl
      | some o =>
        have z := nb a o (J.bs a o e).1 (by rw [hs]; exact fun hb => apart a hb rfl)
        rw [fl3.2.1] at z
        cases z
    obtain ⟨oe3, vs3, he3, hz3, hd3⟩ := fl3.there
    have S3 := J3.suite he3 hd3 na nL nF
    refine wpAny_handleBy_cons (codeAny_handlers_test (Tuple_ ?_)) (by intro q; cases q)
    show wpAny _ _ (spliced [(false, eval (.Name x1 q1) X.env), (false, eval (.Name x2 q2) X.env)]) _ _ _
    refine Calls.spliced_cons (named hc1 S3 (Calls.spliced_cons (named hc2 S3 (Calls.spliced_nil (wpAny_newTuple ?_)))))
    have kp : ∀ b o, h3.get? b = some o → (h3.push ({ cls := .type "tuple", data := .seq [c1, c2].toArray } : Obj)).get? b = some o := fun b o e => Heap.get?_push_of_some _ e
    have LT : PySem.W.Looks (model X.prog X.w) (h3.push ({ cls := .type "tuple", data := .seq [c1, c2].toArray } : Obj)) (typeOf (.ref a)) cls := fun A Q E s k q => wpAny_typeOf_ref (k _ _ (kp _ _ he3)) (by rw [hz3.1]; exact q)
    refine (PySem.W.exm_tup2 (M := model X.prog X.w) (J3.kIn.keeps kp) LT (Heap.get?_push_size _ rfl) hm).here ?_
    refine codeAny_handlers_suite_as (HandSPX.lands_againZ (fly_more fl3 kp) fun h4 fl4 up4 => ?_)
    have up34 : h3.UpToSlots h4 := fun b o e hn => up4 b o (kp b o e) hn
    have J4 : Inv X pins σ' H' { s' with heap := h4 } := J.landed nb fl4.1 ((up.trans up3).trans up34) os ag
    obtain ⟨oe4, vs4, he4, hz4, hd4⟩ := fl4.there
    refine store_ok (X := X.suite a ((a, oe4) :: (X.pn ++ pins))) (v := .ref a) (J4.suite he4 hd4 na nL nF) hN hi (.inl hln) rfl (fun s5 S5 => ?_) (.inr hln)
    refine wpAny_mono ((hsu a oe4 cls d (X.pn ++ pins) hz4 ⟨_, hd4⟩ nB).run [] s5 _ H' _ S5 (go a oe4 na)) (fun f s6 hsp => ?_) (fun _ _ z => False.elim z)
    have away : ∀ {σ6 : L2.St} {H6 : Hp} {Q : Shared → Prop}, Inv (X.suite a ((a, oe4) :: (X.pn ++ pins))) [] σ6 H6 s6 → (∀ s7, Inv X pins (σ6.set i none) H6 s7 → Q s7) →
        wpAny (model X.prog X.w) X.A (do bindName X.env n .none; unbindBehindTheSuite X.env n pos') (fun _ s7 => Q s7) X.xe s6 := fun S6 hq => gone_ok (S6.unsuite ok) hN hi hln hq
    cases f with
    | next =>
      obtain ⟨_, _, S6, q6⟩ := hsp
      exact away S6 fun _ J7 => ⟨_, _, J7, q6⟩
    | brk =>
      obtain ⟨_, _, S6, q6⟩ := hsp
      exact away S6 fun _ J7 => ⟨_, _, J7, q6⟩
    | cont =>
      obtain ⟨_, _, S6, q6⟩ := hsp
      exact away S6 fun _ J7 => ⟨_, _, J7, q6⟩
    | ret u =>
      obtain ⟨_, _, _, S6, r6, q6⟩ := hsp
      exact away S6 fun _ J7 => ⟨_, _, _, J7, r6, q6⟩
  · cases f with
    | next =>
      obtain ⟨_, _, J', q⟩ := hsp
      exact wpAny_execs_nil ⟨_, _, J'.ofTry ok, q⟩
    | brk =>
      obtain ⟨_, _, J', q⟩ := hsp
      exact ⟨_, _, J'.ofTry ok, q⟩
    | cont =>
      obtain ⟨_, _, J', q⟩ := hsp
      exact ⟨_, _, J'.ofTry ok, q⟩
    | ret u =>
      obtain ⟨_, _, _, J', r, q⟩ := hsp
      exact ⟨_, _, _, J'.ofTry ok, r, q⟩
end
end Lend
namespace Kk
open PySem L2 PyProof.Rows

end Kk
namespace LendN
open PySem PySem.Spec PyProof.Rows L2
/-! ### try: .. except (A, B) as n: .., the errors' context told -/
/-- what the clause wishes of an exception of the body: it is one of both; then the suite with it at slot i -/
def wTup (K : PySem.W.Frag) (c1 c2 : Value) (i : Nat) (ts : Addr → Obj → Value → Option Addr → TS) (D : Ends) : WX := fun cls d σ H => PySem.W.exmAny K cls [c1, c2] = some true ∧
  ∀ a oe, H a = none → ts a oe cls d { nx := fun σ' H' => D.nx (σ'.set i none) H', rt := D.rt, bk := fun σ' H' => D.bk (σ'.set i none) H', ct := fun σ' H' => D.ct (σ'.set i none) H' } (σ.set i (some (.ref a))) H
section
variable {X : Cx} {x1 x2 n : Str} {c1 c2 : Value} {i : Nat} {body suite : List Stmt} {b₀ : Stmt} {q1 q2 tp pos pos' : Pos} {kk : Nat} {tb : WX → TS} {ts : Addr → Obj → Value → Option Addr → TS}
theorem named {x : Str} {c : Value} {q : Pos} {pins : List (Addr × Obj)} {σ : L2.St} {H : Hp} {s : Shared} {Q : Value → Shared → Prop} {E : Value → Shared → Prop} {a : Addr} {pn : List (Addr × Obj)} (hc : Names X x c) (S : Inv (X.suite a pn) pins σ H s) (h : Q c s) :
    wpAny (model X.prog X.w) (X.A.mark (some (.ref a))) (eval (.Name x q) X.env) Q E s := by
  obtain ⟨hg, hd, hm | ⟨hm, hv, hn⟩⟩ := hc
  · exact ld_glob (X := X.suite a pn) S hg hm h hd
  · exact ld_blt (X := X.suite a pn) S hg hm hv h hn hd
theorem ps_try_tup (hs : X.stack = X.env :: X.outer) (hf : X.env.frame = some X.env.locals) (hN : X.N.Nodup) (hi : X.N[i]? = some n) (hln : X.env.kindOf n = some .local) (hc1 : Names X x1 c1) (hc2 : Names X x2 c2)
    (hb : ∀ (W : WX) (pn : List (Addr × Obj)) (xe : Value → Shared → Prop), L2N.Takes (X.tr pn xe) W → PassesOwn (model X.prog X.w) X.A X.env xe → PSs (X.tr pn xe) body (tb W))
    (hsu : ∀ (a : Addr) (oe : Obj) (cls : Value) (d : Option Addr) (pn : List (Addr × Obj)), L2N.Zn cls d oe → (∃ vs, oe.data = .fields vs) → X.base.get? a = none → PSs (X.suite a ((a, oe) :: pn)) (b₀ :: suite) (ts a oe cls d)) :
    PS X (.Try body [.ExceptHandler (some (.Tuple [.Name x1 q1, .Name x2 q2] kk tp)) (some n) (b₀ :: suite) pos'] [] [] pos) (fun D σ H => tb (wTup X.K c1 c2 i ts D) D σ H) := by
  refine ⟨fun pins s σ H D I h => wpAny_Try_except ?_⟩
  have ok := I.ok
  have over : X.A.frames = some (X.env :: X.outer) := ok.frames.trans (congrArg some hs)
  refine wpAny_mono ((hb (wTup X.K c1 c2 i ts D) (X.pn ++ pins) _ (fun u s' xx => ?_) PassesOwn.looking).run [] s σ H D (I.toTry _) h) (fun f s1 hsp => ?_) (fun e s1 he => he)
  · obtain ⟨a, B, sI, pins', σ', H', cls, d, rfl, J', nb, up, sky, na, os, ag, hm, go⟩ := xx
    have J : Inv X pins σ' H' sI := J'.ofTry ok
    refine L2N.Sky.land L2N.Zn.steady over hf (hs ▸ sky) fun h3 fl3 up3 => ?_
    have J3 : Inv X pins σ' H' { s' with heap := h3 } := J.landed nb fl3.1 (up.trans up3) os ag
    have apart : ∀ b ∈ frs (X.env :: X.outer), b ≠ a := fun b hb e => by
      obtain ⟨oe, vs, he, _, hd⟩ := fl3.there
      obtain ⟨_, o, ho, hn⟩ := fl3.2.2.1.mem hb
      rw [e, he] at ho
      exact hn vs (Option.some.inj ho ▸ hd)
    have nL : a ≠ X.env.locals := fun e => apart _ (List.mem_filterMap.mpr ⟨X.env, List.mem_cons_self, hf⟩) e.symm
    have nF : a ∉ X.fs := fun hm => by
      obtain ⟨e, he, q⟩ := List.mem_filterMap.mp hm
      exact apart a (List.mem_filterMap.mpr ⟨e, List.mem_cons_of_mem _ he, q⟩) rfl
    have nB : X.base.get? a = none := by
      cases e : X.base.get? a with
      | none => rfl
      | some o =>
        have z := nb a o (J.bs a o e).1 (by rw [hs]; exact fun hb => apart a hb rfl)
        rw [fl3.2.1] at z
        cases z
    obtain ⟨oe3, vs3, he3, hz3, hd3⟩ := fl3.there
    have S3 := J3.suite he3 hd3 na nL nF
    refine wpAny_handleBy_cons (codeAny_handlers_test (Tuple_ ?_)) (by intro q; cases q)
    show wpAny _ _ (spliced [(false, eval (.Name x1 q1) X.env), (false, eval (.Name x2 q2) X.env)]) _ _ _
    refine Calls.spliced_cons (named hc1 S3 (Calls.spliced_cons (named hc2 S3 (Calls.spliced_nil (wpAny_newTuple ?_)))))
    have kp : ∀ b o, h3.get? b = some o → (h3.push ({ cls := .type "tuple", data := .seq [c1, c2].toArray } : Obj)).get? b = some o := fun b o e => Heap.get?_push_of_some _ e
    have LT : PySem.W.Looks (model X.prog X.w) (h3.push ({ cls := .type "tuple", data := .seq [c1, c2].toArray } : Obj)) (typeOf (.ref a)) cls := fun A Q E s k q => wpAny_typeOf_ref (k _ _ (kp _ _ he3)) (by rw [hz3.1]; exact q)
    refine (PySem.W.exm_tup2 (M := model X.prog X.w) (J3.kIn.keeps kp) LT (Heap.get?_push_size _ rfl) hm).here ?_
    refine codeAny_handlers_suite_as (HandSPX.lands_againZ (Lend.fly_more fl3 kp) fun h4 fl4 up4 => ?_)
    have up34 : h3.UpToSlots h4 := fun b o e hn => up4 b o (kp b o e) hn
    have J4 : Inv X pins σ' H' { s' with heap := h4 } := J.landed nb fl4.1 ((up.trans up3).trans up34) os ag
    obtain ⟨oe4, vs4, he4, hz4, hd4⟩ := fl4.there
    refine store_ok (X := X.suite a ((a, oe4) :: (X.pn ++ pins))) (v := .ref a) (J4.suite he4 hd4 na nL nF) hN hi (.inl hln) rfl (fun s5 S5 => ?_) (.inr hln)
    refine wpAny_mono ((hsu a oe4 cls d (X.pn ++ pins) hz4 ⟨_, hd4⟩ nB).run [] s5 _ H' _ S5 (go a oe4 na)) (fun f s6 hsp => ?_) (fun _ _ z => False.elim z)
    have away : ∀ {σ6 : L2.St} {H6 : Hp} {Q : Shared → Prop}, Inv (X.suite a ((a, oe4) :: (X.pn ++ pins))) [] σ6 H6 s6 → (∀ s7, Inv X pins (σ6.set i none) H6 s7 → Q s7) →
        wpAny (model X.prog X.w) X.A (do bindName X.env n .none; unbindBehindTheSuite X.env n pos') (fun _ s7 => Q s7) X.xe s6 := fun S6 hq => gone_ok (S6.unsuite ok) hN hi hln hq
    cases f with
    | next =>
      obtain ⟨_, _, S6, q6⟩ := hsp
      exact away S6 fun _ J7 => ⟨_, _, J7, q6⟩
    | brk =>
      obtain ⟨_, _, S6, q6⟩ := hsp
      exact away S6 fun _ J7 => ⟨_, _, J7, q6⟩
    | cont =>
      obtain ⟨_, _, S6, q6⟩ := hsp
      exact away S6 fun _ J7 => ⟨_, _, J7, q6⟩
    | ret u =>
      obtain ⟨_, _, _, S6, r6, q6⟩ := hsp
      exact away S6 fun _ J7 => ⟨_, _, _, J7, r6, q6⟩
  · cases f with
    | next =>
      obtain ⟨_, _, J', q⟩ := hsp
      exact wpAny_execs_nil ⟨_, _, J'.ofTry ok, q⟩
    | brk =>
      obtain ⟨_, _, J', q⟩ := hsp
      exact ⟨_, _, J'.ofTry ok, q⟩
    | cont =>
      obtain ⟨_, _, J', q⟩ := hsp
      exact ⟨_, _, J'.ofTry ok, q⟩
    | ret u =>
      obtain ⟨_, _, _, J', r, q⟩ := hsp
      exact ⟨_, _, _, J'.ofTry ok, r, q⟩
end
end LendN
namespace Kk
open PySem L2 PyProof.Rows

end Kk
namespace LendN
open PySem PySem.Spec PyProof.Rows L2 Lend
/-! ### errors through lent cells, the errors' context told -/
section
variable {P : Program} {w : World} {H H' : Hp} {h h' : Heap} {cs : List (Addr × Obj)} {fs : List Addr} {b : Addr} {o : Obj}
/-- nothing is told at the cells -/
def Offs (H : Hp) (cs : List (Addr × Obj)) : Prop := ∀ b o, cs.lookup b = some o → H b = none
theorem cx_in {outer : List Env} {s s' : Shared} {E : XK} {u : Value} (x : L2N.CX P w outer (unl H cs) s (fun cls d H' => Offs H' cs → E cls d (lend H' cs)) u s') (hok : HOk P w H s.heap) (c : Ins H cs) (nf : ∀ b o, cs.lookup b = some o → b ∉ frs outer) : L2N.CX P w outer H s E u s' := by
  obtain ⟨a, B, H', cls, d, e, fl, hok', ub, na, os, ag, hE⟩ := x
  have o' : Outs H' B cs := fun b o z => by
    have hb := cel_at hok (c b o z)
    exact ⟨ub.keep b o hb (unl_in z) (nf b o z), ub.free b o hb (unl_in z)⟩
  have z : cs.lookup a = none := by
    cases z : cs.lookup a with
    | none => rfl
    | some o =>
      have y := fl.2.1
      rw [(o' a o z).1] at y
      cases y
  exact ⟨a, B, lend H' cs, cls, d, e, fl, lend_ok hok' o', ub_in ub c, by rw [lend_out z]; exact na, os, ag, hE fun b o z => (o' b o z).2⟩
theorem ce_in {outer : List Env} {s s' : Shared} {Q : VK} {u : Value} (x : CE outer P w (unl H cs) s (fun v H' => Offs H' cs → Q v (lend H' cs)) u s') (hok : HOk P w H s.heap) (c : Ins H cs) (nf : ∀ b o, cs.lookup b = some o → b ∉ frs outer) : CE outer P w H s Q u s' := by
  obtain ⟨v, H', os, bare, un, hok', r, q⟩ := x
  have o' := outs_after un hok c nf
  exact ⟨v, lend H' cs, os, bare, un_in un c, lend_ok hok' o', r, q fun b o z => (o' b o z).2⟩
theorem cx_out {outer : List Env} {s s' : Shared} {E : XK} {u : Value} (x : L2N.CX P w outer (lend H cs) s (fun cls d H' => Ins H' cs ∧ E cls d (unl H' cs)) u s') (c : Outs H s.heap cs) : L2N.CX P w outer H s E u s' := by
  obtain ⟨a, B, H', cls, d, e, fl, hok', ub, na, os, ag, i', hE⟩ := x
  exact ⟨a, B, unl H' cs, cls, d, e, fl, unl_ok hok' i', ub_out ub c i' hok', by rw [unl_out (i'.off na)]; exact na, os, ag, hE⟩
end
open NdefX LamX in
theorem ask_of {P : Program} {w : World} {K : PySem.W.Frag} {mg : Str → Option Value} {base : Heap} {k : Nat} {f c' : Addr} {name qual : Str} {params : Arguments} {body : Expr} {scope : Scope} {cl : List (Str × Addr)} {dV doc pm ct : Value} {cs : List (Addr × Obj)} {N ps fr : List Str} {vs : List V} {ws : List (Option V)} {fs : List (Addr × HO)} {sp : Hp → VK → XK → Prop}
    (S : NScope N ps fr scope) (m1 : (f, FunO f (lamFd name qual params body scope cl dV doc pm c' ct)) ∈ fs) (m2 : (c', CodeO c' qual) ∈ fs) (m3 : ∀ b o, cs.lookup b = some o → (b, CelO b o) ∈ fs)
    (len : ws.length = fr.length) (inj : ∀ x y c, cl.lookup x = some c → cl.lookup y = some c → x = y) (all : ∀ y c, cl.lookup y = some c → ∃ o v, cs.lookup c = some o ∧ o.data = .cell v)
    (has : ∀ (i : Nat) (y : Str), fr[i]? = some y → ∃ c o, cl.lookup y = some c ∧ cs.lookup c = some o ∧ ∀ v, ws[i]? = some (some v) → ∃ u, L2.RelV v u ∧ o.data = .cell (some u))
    (hbind : ∀ (s : Shared) (H : Hp), HOk P w H s.heap → (∀ p ∈ fs, H p.1 = some p.2) → ∃ us, BindsTo s (lamFd name qual params body scope cl dV doc pm c' ct) ⟨[], []⟩ (ps.zip us) ∧ Vals vs us) (hl : vs.length = ps.length)
    (hrun : ∀ (A : Around) (outer : List Env) (s : Shared) (H : Hp) (Q : VK) (E : XK), Room k (A.deeper (envF ⟨name, qual, params, [], scope, cl, c'⟩ f s.heap.objs.size)) → (∀ p ∈ fs, H p.1 = some p.2) → sp H Q E →
      ∃ tb, PE (ncx (L2N.CX P w) P w K mg base N ⟨name, qual, params, [], scope, cl, c'⟩ f A outer s (unl H cs) (fun cls d H' => Offs H' cs → E cls d (lend H' cs))) body tb ∧ tb (startF N vs ws) (unl H cs) (fun v H' => Offs H' cs → Q v (lend H' cs))) :
    AskOk P w K mg base (L2N.CX P w) (k + 1) f fs sp := by
  refine ⟨fun H h hok hf => ?_, fun A outer s H Q E hr e0 hf q => ?_⟩
  · have x : ObjOk P w H h f (FunO f (lamFd name qual params body scope cl dV doc pm c' ct)) := hok f _ (hf _ m1)
    obtain ⟨⟨od, sl, ho⟩, _, _⟩ := x
    exact ⟨_, _, _, _, ho⟩
  · have ins : Ins H cs := fun b o z => hf _ (m3 b o z)
    have nf : ∀ b o, cs.lookup b = some o → b ∉ frs outer := fun b o z hb => by
      have y := e0.frf b hb
      rw [ins b o z] at y
      cases y
    have e1 := env0_unl e0 ins
    have lim : s.heap.NoLimit := e0.mod.nolimit.keeps fun b o e => (e0.bs b o e).1
    have C : CellsAt cl fr ws s.heap (unl H cs) := by
      refine ⟨len, fun y c e => ?_, inj, fun i y e => ?_⟩
      · obtain ⟨o, v, h1, h2⟩ := all y c e
        exact ⟨unl_in h1, v, o, cel_at e0.hok (ins c o h1), h2⟩
      · obtain ⟨c, o, h1, h2, h3⟩ := has i y e
        refine ⟨c, h1, fun v z => ?_⟩
        obtain ⟨u, r, hd⟩ := h3 v z
        exact ⟨u, r, o, cel_at e0.hok (ins c o h2), hd⟩
    have x : ObjOk P w H s.heap f (FunO f (lamFd name qual params body scope cl dV doc pm c' ct)) := e0.hok f _ (hf _ m1)
    obtain ⟨⟨od, sl, ho⟩, _, _⟩ := x
    have hcr := codeO_at e0.hok (hf _ m2)
    obtain ⟨us, hbd, hvs⟩ := hbind s H e0.hok hf
    obtain ⟨tb, ht, hq⟩ := hrun A outer s H Q E (hr.deeper _) hf q
    refine codeAny_mono (R := CR (L2N.CX P w) outer P w (unl H cs) s (fun v H' => Offs H' cs → Q v (lend H' cs)) (fun cls d H' => Offs H' cs → E cls d (lend H' cs))) ?_ (fun r s' hq => ?_)
    · refine PySem.W.kla_callFunE hr.depth ho rfl S.co S.gen rfl hcr ?_
      refine hbd _ _ _ _ ?_
      refine wpAny_newFunctionEnv S.nocell (fun ⟨n, _⟩ hy => S.par n (List.of_mem_zip hy).1) (fun h₁ hns hsb => ⟨lim.fresh _ hsb, ?_⟩) S.kind
      show codeAny _ _ (.expr body (envF ⟨name, qual, params, [], scope, cl, c'⟩ f s.heap.objs.size)) _ _
      have kp : ∀ b o, s.heap.get? b = some o → h₁.get? b = some o := fun b o e => hsb.extBut b o (Nat.ne_of_lt (Heap.lt_size e)) (Heap.get?_push_of_some _ e)
      have I : Inv (ncx (L2N.CX P w) P w K mg base N ⟨name, qual, params, [], scope, cl, c'⟩ f A outer s (unl H cs) (fun cls d H' => Offs H' cs → E cls d (lend H' cs))) [] (startF N vs ws) (unl H cs) { s with heap := h₁, toks := s.toks + (ps.zip us).length } :=
        inv_startN (F := ⟨name, qual, params, [], scope, cl, c'⟩) S hr.hd e1 hl hvs C hns kp
      refine PySem.W.kla_codeExpr (wpAny_mono (ht.run [] _ (startF N vs ws) (unl H cs) _ I hq) (fun v s' hs => ?_) fun e s' hs => hs)
      obtain ⟨y, H', J, rv, q⟩ := hs
      exact ⟨y, H', J.os, J.bare, J.base, J.hok, rv, q⟩
    · cases r with
      | error e => exact cx_in hq e0.hok ins nf
      | ok fl =>
        cases fl with
        | ret u => exact ce_in hq e0.hok ins nf
        | next => exact False.elim hq
        | brk => exact False.elim hq
        | cont => exact False.elim hq
end LendN
namespace Kk
open PySem L2 PyProof.Rows

end Kk
namespace LendN
open PySem PySem.Spec PyProof.Rows L2
/-! ### X(e, ..) as what is raised, its context told to be None -/
theorem pmkN_own {X : Cx} {CX : CXT} {x : Str} {e : Expr} {es : List Expr} {ta : TA} {p pos : Pos} {C fI : Addr} {k : Nat} {fd : FuncData} {ps : List Str} {sp : Sp} (T : OexC X.K C) (iC : PySem.W.findIn X.K (.ref C) "__init__" = some (some (.ref fI))) (tI : PySem.W.typeIn X.K (.ref fI) = some (.type "function"))
    (F1 : FnOk X.prog X.w X.K X.mg X.base CX k fI fd ps sp) (hr : Room (k + 1) X.A) (hb : Binds X.K fd ps []) (hx : Passes CX X (fun _ _ _ => False)) (hg : Gl X x) (hm : X.mg x = some (.ref C)) (ha : PA X (e :: es) ta)
    (hdb : (x == ("__debug__" : Str)) = false := by decide) (he : starEach (e :: es) X.env = (false, eval e X.env) :: starEach es X.env := by rfl) (hpl : (backTo pos (starEach es X.env)).any (·.1) = false := by rfl) :
    L2N.PMk X (.Call (.Name x p) (e :: es) [] pos) (tMkO C sp [] ta) := fun pins s σ H Q I h => by
  obtain ⟨nm, q, N, bs, bm, sn, sub, ab, col, dd, k0, k1, k2, k3, k5, hC, hbm⟩ := T.cls
  refine wpAny_Call_Name_kw (ld_glob I hg hm (PySem.W.callWith_K (h₀ := X.base) I.ok.mod.kin T.kC (thn (ha.run pos pins s σ H _ I h) fun us s1 ⟨vs, H1, I1, r1, hz, q1⟩ => ⟨I1.kIn, ?_⟩) he hpl) hdb)
  obtain ⟨hp, g, dr, tk, os⟩ := s1
  have two : ∀ b o, hp.get? b = some o → ((hp.push (PySem.W.kdv_tup us)).push (PySem.HandSPX.excO C hp.objs.size)).get? b = some o := fun b o e => Heap.get?_push_of_some _ (Heap.get?_push_of_some _ e)
  have I2 := I1.laid (t' := tk) (o := exo (hp.objs.size + 1) C none) two (Nat.le_succ _) (exo_ok (t1 := hp.objs.size) (by heap_get))
  have hq := q1 (hp.objs.size + 1) (I1.hok.fresh (Nat.le_succ _))
  rw [List.append_nil] at hq
  have r2 : Vals (V.ref (hp.objs.size + 1) :: vs) (Value.ref (hp.objs.size + 1) :: us) := .cons rfl r1
  have b2 := hb _ (Value.ref (hp.objs.size + 1) :: us) I2.kIn (by rw [List.append_nil, ← r2.length]; exact F1.len _ _ _ _ hq)
  rw [List.append_nil] at b2
  show wpAny _ _ (call (.ref C) us) _ _ _
  refine wpAny_call (PySem.HandSPX.call_own F.excBase_ValueError (fun Y => PySem.HandSPX.refsVE_contains Y bm hbm) (I1.kIn _ _ hC) (PySem.W.looks_findIn I1.kIn iC) (fun self => PySem.W.bind_fn I1.kIn self tI) (by rw [← Paired.length r1, sizeLine_eq]; omega)
    (codeAny_mono (F1.run _ X.stack _ _ ⟨Value.ref (hp.objs.size + 1) :: us, []⟩ _ _ _ (fun _ _ _ => False) (hr.make C us []) (I2.env0.make C us []) b2 r2 hq) fun r s' hq' => ?_))
  match r, hq' with
  | .error er, hq' => exact hx pins σ _ _ er s' I2 hq'
  | .ok (.ret u), ⟨v, H2, os2, bare2, un2, hok2, rv, ev, d, fs, ea, ed, hd1, q2⟩ =>
    subst ev
    obtain ⟨h2, g2, d2, t2, os'⟩ := s'
    obtain ⟨t0, G, J, kG, ge, hoe, na⟩ := mk_end0 (d2 := d2) (t2 := t2) I1 (Nat.le_succ _) two un2 hok2 os2 bare2 ea ed hd1
    exact ⟨rv, hp.objs.size + 1, _, _, ⟨G, g2, d2, t2, os'⟩, _, .ref C, some d, rfl, J, kG, ge, hoe, ⟨rfl, rfl, fun vs hv => by cases hv; rfl⟩, rfl, rfl, na, rfl, bare2, raises_own T.exC T.tyC, q2⟩
/-- X() as what is raised -/
theorem pmkN_own0 {X : Cx} {CX : CXT} {x : Str} {p pos : Pos} {C fI : Addr} {k : Nat} {fd : FuncData} {ps : List Str} {sp : Sp} (T : OexC X.K C) (iC : PySem.W.findIn X.K (.ref C) "__init__" = some (some (.ref fI))) (tI : PySem.W.typeIn X.K (.ref fI) = some (.type "function"))
    (F1 : FnOk X.prog X.w X.K X.mg X.base CX k fI fd ps sp) (hr : Room (k + 1) X.A) (hb : Binds X.K fd ps []) (hx : Passes CX X (fun _ _ _ => False)) (hg : Gl X x) (hm : X.mg x = some (.ref C)) 
    (hdb : (x == ("__debug__" : Str)) = false := by decide) :
    L2N.PMk X (.Call (.Name x p) [] [] pos) (tMkO C sp [] tNil) := fun pins s1 σ H1 Q I1 h => by
  obtain ⟨nm, q, N, bs, bm, sn, sub, ab, col, dd, k0, k1, k2, k3, k5, hC, hbm⟩ := T.cls
  obtain ⟨us, hus⟩ : ∃ us : List Value, us = [] := ⟨_, rfl⟩
  obtain ⟨vs, hvs⟩ : ∃ vs : List V, vs = [] := ⟨_, rfl⟩
  have r1 : Vals vs us := by rw [hus, hvs]; exact .nil
  have hz : vs.length ≤ 1000 := by rw [hvs]; decide
  have q1 := h.2
  refine wpAny_Call_Name_kw (ld_glob I1 hg hm (PySem.W.callWith_K0 I1.kIn T.kC ?_) hdb)
  rw [show ([] : List Value) ++ [] = us by rw [hus]; rfl]
  obtain ⟨hp, g, dr, tk, os⟩ := s1
  have two : ∀ b o, hp.get? b = some o → ((hp.push (PySem.W.kdv_tup us)).push (PySem.HandSPX.excO C hp.objs.size)).get? b = some o := fun b o e => Heap.get?_push_of_some _ (Heap.get?_push_of_some _ e)
  have I2 := I1.laid (t' := tk) (o := exo (hp.objs.size + 1) C none) two (Nat.le_succ _) (exo_ok (t1 := hp.objs.size) (by heap_get))
  have hq := q1 (hp.objs.size + 1) (I1.hok.fresh (Nat.le_succ _))
  rw [List.nil_append, ← hvs] at hq
  have r2 : Vals (V.ref (hp.objs.size + 1) :: vs) (Value.ref (hp.objs.size + 1) :: us) := .cons rfl r1
  have b2 := hb _ (Value.ref (hp.objs.size + 1) :: us) I2.kIn (by rw [List.append_nil, ← r2.length]; exact F1.len _ _ _ _ hq)
  rw [List.append_nil] at b2
  show wpAny _ _ (call (.ref C) us) _ _ _
  refine wpAny_call (PySem.HandSPX.call_own F.excBase_ValueError (fun Y => PySem.HandSPX.refsVE_contains Y bm hbm) (I1.kIn _ _ hC) (PySem.W.looks_findIn I1.kIn iC) (fun self => PySem.W.bind_fn I1.kIn self tI) (by rw [← Paired.length r1, sizeLine_eq]; omega)
    (codeAny_mono (F1.run _ X.stack _ _ ⟨Value.ref (hp.objs.size + 1) :: us, []⟩ _ _ _ (fun _ _ _ => False) (hr.make C us []) (I2.env0.make C us []) b2 r2 hq) fun r s' hq' => ?_))
  match r, hq' with
  | .error er, hq' => exact hx pins σ _ _ er s' I2 hq'
  | .ok (.ret u), ⟨v, H2, os2, bare2, un2, hok2, rv, ev, d, fs, ea, ed, hd1, q2⟩ =>
    subst ev
    obtain ⟨h2, g2, d2, t2, os'⟩ := s'
    obtain ⟨t0, G, J, kG, ge, hoe, na⟩ := mk_end0 (d2 := d2) (t2 := t2) I1 (Nat.le_succ _) two un2 hok2 os2 bare2 ea ed hd1
    exact ⟨rv, hp.objs.size + 1, _, _, ⟨G, g2, d2, t2, os'⟩, _, .ref C, some d, rfl, J, kG, ge, hoe, ⟨rfl, rfl, fun vs hv => by cases hv; rfl⟩, rfl, rfl, na, rfl, bare2, raises_own T.exC T.tyC, q2⟩
theorem okN {P : Program} {w : World} {K : PySem.W.Frag} {mg : Str → Option Value} {base : Heap} {x qual : Str} {st : Stmt} {f : Addr} {fd : FuncData} {N ps : List Str} {k : Nat} {sp : Sp} (F : Fun K x qual st f fd) (S : FnScope N ps (defScope st)) (len : ∀ vs H Q E, sp vs H Q E → vs.length = ps.length)
    (hbody : ∀ (cdv : Value) (A : Around) (outer : List Env) (s : Shared) (H : Hp) (vs : List V) (Q : VK) (E : XK), Room k (A.deeper (envOfC qual (defScope st) s.heap.objs.size f cdv)) → sp vs H Q E →
      ∃ t, PSs (cxOf (L2N.CX P w) P w K mg base N qual (defScope st) f cdv A outer s H E) (defBody st) t ∧ t { nx := fun _ H' => Q .non H', rt := Q } (L2.start N vs) H) : FnOk P w K mg base (L2N.CX P w) (k + 1) f fd ps sp := by
  obtain ⟨oc, od, kV, doc, pm, an, cdv, ct, osl, rfl, lk, hcd⟩ := F.ex
  exact fn_of lk hcd S len fun A outer s H vs Q E hr hsp => hbody cdv A outer s H vs Q E hr hsp
/-- ask() on a local name, what it lets out told of the very state -/
def tAskS (P : Program) (w : World) (K : PySem.W.Frag) (mg : Str → Option Value) (base : Heap) (k i : Nat) (W : WX) : TE := fun σ H Q => ∃ (f : Addr) (fs : List (Addr × HO)) (sp : Hp → VK → XK → Prop), σ[i]? = some (some (.ref f)) ∧ Lend.AskOk P w K mg base (L2N.CX P w) k f fs sp ∧ (∀ p ∈ fs, H p.1 = some p.2) ∧ sp H Q (fun cls d H' => W cls d σ H')
theorem pe_askS {X : Cx} {k i : Nat} {W : WX} {a : Str} {p1 p2 : Pos} (hr : Room k X.A) (tk : L2N.Takes X W) (hN : X.N[i]? = some a) (hv : Vis X.env.scope a) (hd : (a == ("__debug__" : Str)) = false := by decide) (hcd : (a == ("__classdict__" : Str)) = false := by decide) :
    PE X (.Call (.Name a p1) [] [] p2) (tAskS X.prog X.w X.K X.mg X.base k i W) := by
  refine ⟨fun pins s σ H Q I h => ?_⟩
  obtain ⟨f, fs, sp, hs, ok, hf, q⟩ := h
  refine wpAny_Call_Name_kw (thn ((pe_var (pos := p1) (i := i) hN hv hd hcd).run pins s σ H (fun v H1 => v = .ref f ∧ H1 = H) I ⟨.ref f, hs, rfl, rfl⟩) fun u s1 ⟨v, H1, I1, r1, ev, eH⟩ => ?_)
  subst ev
  rw [eH] at I1
  obtain rfl : u = Value.ref f := r1
  refine PySem.W.callWith_F0 (ok.fn H _ I1.hok hf) (wpAny_call (codeAny_mono (ok.run X.A X.stack s1 H Q _ hr I1.env0 hf q) fun r s' hq => ?_))
  match r, hq with
  | .error e, hq => exact L2N.passAt tk σ pins H s1 e s' I1 hq
  | .ok (.ret u), hq => exact I1.after hq
end LendN
namespace Kk
open PySem L2 PyProof.Rows

end Kk
namespace HotP
open PySem PySem.Spec PyProof.Rows L2 HotX L2H
/-! ### a def called within an except suite whose promise speaks of the handled error -/
structure FnHP (P : Program) (w : World) (K : PySem.W.Frag) (mg : Str → Option Value) (base : Heap) (CX : CXT) (k : Nat) (f : Addr) (fd : FuncData) (ps : List Str) (sp : Addr × Obj → Sp) : Prop where
  len : ∀ p vs H Q E, sp p vs H Q E → vs.length = ps.length
  run : ∀ (A : Around) (outer : List Env) (s : Shared) (H : Hp) (args : Args) (us : List Value) (vs : List V) (Q : VK) (E : XK) (p : Addr × Obj), RoomH k A → Hot1 A p → PinOk outer H s p → Env0 P w K mg base A outer s H → BindsTo s fd args (ps.zip us) → Vals vs us → sp p vs H Q E →
    codeAny (model P w) A (.call (.ref f) args) (CR CX outer P w H s Q E) s
section
variable {CX : CXT} {P : Program} {w : World} {K : PySem.W.Frag} {mg : Str → Option Value} {base : Heap} {k : Nat} {f : Addr} {name qual : Str} {params : Arguments} {body : List Stmt} {scope : Scope} {dV kV doc pm cdv ct oc : Value} {an od : Option Addr} {osl : Array (Option Value)} {N ps : List Str} {sp : Addr × Obj → Sp}
theorem fnHP_of (lk : K.lookup f = some ⟨oc, od, .func (PySem.W.fnOf name qual params body scope dV kV doc pm an cdv ct), osl⟩) (hcd : PySem.W.codeIn K cdv qual = true) (S : FnScope N ps scope) (len : ∀ p vs H Q E, sp p vs H Q E → vs.length = ps.length)
    (hbody : ∀ (A : Around) (outer : List Env) (s : Shared) (H : Hp) (vs : List V) (Q : VK) (E : XK) (p : Addr × Obj), Hot1 A p → RoomH k (A.deeper (envOfC qual scope s.heap.objs.size f cdv)) → sp p vs H Q E →
      ∃ t, PSs (cxH CX P w K mg base N qual scope f cdv A outer s H E p) body t ∧ t { nx := fun _ H' => Q .non H', rt := Q } (L2.start N vs) H) :
    FnHP P w K mg base CX (k + 1) f (PySem.W.fnOf name qual params body scope dV kV doc pm an cdv ct) ps sp := by
  refine ⟨len, fun A outer s H args us vs Q E p hr hot hpin e0 hb r hsp => ?_⟩
  have KX : K.In s.heap := e0.mod.kin.keeps fun b o e => (e0.bs b o e).1
  have lim : s.heap.NoLimit := e0.mod.nolimit.keeps fun b o e => (e0.bs b o e).1
  refine codeAny_call_function hr.depth (KX _ _ lk) rfl S.co S.gen rfl (PySem.W.codeRec_of KX hcd) (hb _ _ _ _ (wpAny_newFunctionEnv_cells S.kind (fun ⟨n, v⟩ hy => ?_) fun env he s1 x => ?_))
  · exact (S.par n (List.of_mem_zip hy).1).imp id fun q => ⟨q, PySem.W.cellsFrom_some _ _ _ (.inl q)⟩
  · subst he
    obtain ⟨t, ht, hq⟩ := hbody A outer s H vs Q E p hot (hr.deeper _) hsp
    have I : Inv (cxH CX P w K mg base N qual scope f cdv A outer s H E p) [] (L2.start N vs) H s1 := inv_startH S hpin e0 (len _ _ _ _ _ hsp) r x
    refine ⟨lim.keeps x.toInCall.keep, codeAny_func (wpAny_mono (ht.run [] s1 _ H _ I hq) (fun fl s' hs => ?_) fun e s' hs => hs)⟩
    cases fl with
    | ret u =>
      obtain ⟨v, _, H', J, rv, q⟩ := hs
      exact ⟨v, H', J.os, J.bare, J.base, J.hok, rv, q⟩
    | next =>
      obtain ⟨_, H', J, q⟩ := hs
      exact ⟨V.non, H', J.os, J.bare, J.base, J.hok, rfl, q⟩
    | brk =>
      obtain ⟨_, _, _, q⟩ := hs
      exact False.elim q
    | cont =>
      obtain ⟨_, _, _, q⟩ := hs
      exact False.elim q
/-- the reading of a call of such a def within the suite, p the handled error -/
def tCallHP (p : Addr × Obj) (sp : Addr × Obj → Sp) (t : TA) : TE := fun σ H Q => t σ H fun vs H1 => sp p vs H1 Q C8.E0
theorem pe_callHP {X : Cx} {k : Nat} {f : Addr} {fd : FuncData} {ps : List Str} {sp : Addr × Obj → Sp} {x : Str} {q pos : Pos} {e : Expr} {es : List Expr} {t : TA} {p : Addr × Obj} (F : FnHP X.prog X.w X.K X.mg X.base C8.CX0 k f fd ps sp) (hr : RoomH k X.A) (hot : Hot1 X.A p) (hp : p ∈ X.pn) (hg : Gl X x) (hm : X.mg x = some (.ref f)) (hk : PySem.W.keepIn X.K (.ref f) = true) (hb : Binds X.K fd ps [])
    (ha : PA X (e :: es) t) (hdb : (x == ("__debug__" : Str)) = false := by decide) (he : starEach (e :: es) X.env = (false, eval e X.env) :: starEach es X.env := by rfl) (hpl : (backTo pos (starEach es X.env)).any (·.1) = false := by rfl) :
    PE X (.Call (.Name x q) (e :: es) [] pos) (tCallHP p sp t) := by
  refine ⟨fun pins s σ H Q I h => ?_⟩
  refine wpAny_Call_Name_kw (ld_glob I hg hm ?_ hdb)
  refine PySem.W.callWith_K (h₀ := X.base) I.ok.mod.kin hk (thn (ha.run pos pins s σ H _ I h) fun us s1 ⟨vs, H1, I1, r, q⟩ => ⟨I1.kIn, ?_⟩) he hpl
  have hl : us.length = ps.length := by
    rw [← r.length]
    exact F.len _ _ _ _ _ q
  have b := hb s1 us I1.kIn (by rw [List.append_nil]; exact hl)
  rw [List.append_nil] at b
  obtain ⟨g1, g2, g3, g4, g5⟩ := I1.pin p (List.mem_append_left _ hp)
  refine wpAny_call (codeAny_mono (F.run X.A X.stack s1 H1 ⟨us, []⟩ us vs Q C8.E0 p hr hot ⟨g1, g2, fun hm => (List.mem_cons.mp (I1.stkSub p.1 hm)).elim g3 g4, g5⟩ I1.env0 b r q) fun r s' hq => ?_)
  cases r with
  | error e => exact hq.elim
  | ok fl =>
    cases fl with
    | ret u => exact I1.after hq
    | next => exact False.elim hq
    | brk => exact False.elim hq
    | cont => exact False.elim hq
end
/-- the reading of e.n, e the handled error p -/
def RPin (K : PySem.W.Frag) (p : Addr × Obj) (n : Str) (x : V) (H1 : Hp) (Q : VK) : Prop := x = .ref p.1 ∧ ∃ (C d : Addr) (fs : List (Str × V)) (v : V), XfC K C ∧ PySem.W.findIn K (.ref C) n = some none ∧ p.2.cls = .ref C ∧ p.2.dict = some d ∧ (∃ vs, p.2.data = .fields vs) ∧ H1 d = some (.xd fs) ∧ fs.lookup n = some v ∧ Q v H1
def tPin (K : PySem.W.Frag) (p : Addr × Obj) (n : Str) (te : TE) : TE := fun σ H Q => te σ H fun x H1 => RPin K p n x H1 Q
theorem pe_pinf {X : Cx} {p : Addr × Obj} {e : Expr} {te : TE} {pos : Pos} {n : Str} (hp : p ∈ X.pn) (he : PE X e te) (hb : attributeBase e n X.env (eval e X.env) = eval e X.env := by rfl) :
    PE X (.Attribute e n pos) (tPin X.K p n te) := by
  refine ⟨fun pins s σ H Q I h => attr_of hb (thn (he.run pins s σ H _ I h) fun u s1 hh => ?_)⟩
  obtain ⟨x, H1, I1, rx, rfl, C, d, fs, v, T, hno, hc, hd, ⟨vs, hv⟩, h1, l, q⟩ := hh
  obtain rfl : u = Value.ref p.1 := rx
  have x1 : ObjOk X.prog X.w H1 s1.heap d (.xd fs) := I1.hok d _ h1
  obtain ⟨mA, hns, hr⟩ := x1
  obtain ⟨od, ho, hl⟩ := lookIn_ns hns
  have hm : RelO (some v) (mA n) := by
    have z := hr n
    rw [l] at z
    exact z
  obtain ⟨w, hw, rw_⟩ := RelO.some_of (v := v) (o := mA n) hm
  have J : PySem.W.InstAt s1.heap p.1 p.2 C (some od) := ⟨(I1.pin p (List.mem_append_left _ hp)).1, hc, by unfold PySem.W.notCls; rw [hv] <;> rfl, by rw [hd]; exact ho⟩
  exact HandSPX.exc_get I1.kIn J T.ga T.gg T.exC (PySem.W.findObj_own T.hdC hno rfl (by rw [hl, hw])) (handed_of rw_) ⟨v, H1, I1.tok _, rw_, q⟩
end HotP
namespace Kk
open PySem L2 PyProof.Rows

end Kk
namespace LendN
open PySem PySem.Spec PyProof.Rows L2 Lend LamX NdefX
/-! ### what is told across lent cells -/
theorem celO_lst {c : Addr} {o : Obj} {xs : List V} : CelO c o ≠ .lst xs := fun z => by
  have z' : HO.ext _ = HO.lst xs := z
  cases z'
section
variable {H H' H1 G : Hp} {cs : List (Addr × Obj)} {b : Addr} {u : HO}
theorem Ins.same (s : Same H H') (h : Ins H cs) : Ins H' cs := fun b o e => s _ _ (h b o e)
theorem unl_same (s : Same H H') : Same (unl H cs) (unl H' cs) := fun b u e => by
  cases z : cs.lookup b with
  | some o =>
    rw [unl_in z] at e
    cases e
  | none =>
    rw [unl_out z] at e ⊢
    exact s _ _ e
theorem lend_same (i : Ins H cs) (s : Same (unl H cs) H') : Same H (lend H' cs) := fun b u e => by
  cases z : cs.lookup b with
  | some o =>
    rw [lend_in z, ← i b o z]
    exact e
  | none =>
    rw [lend_out z]
    exact s _ _ (by rw [unl_out z]; exact e)
theorem off_at (f : Offs H' cs) (e : H' b = some u) : cs.lookup b = none := by
  cases z : cs.lookup b with
  | none => rfl
  | some o =>
    rw [f b o z] at e
    cases e
theorem lend_at (f : Offs H' cs) (e : H' b = some u) : lend H' cs b = some u := by
  rw [lend_out (off_at f e)]
  exact e
theorem lend_non (e : lend H' cs b = none) : H' b = none := by
  cases z : cs.lookup b with
  | some o =>
    rw [lend_in z] at e
    cases e
  | none =>
    rw [lend_out z] at e
    exact e
theorem lend_sub (f : Offs H' cs) : Same H' (lend H' cs) := fun b u e => lend_at f e
/-- behind the call: what was lent is let go -/
theorem unl_of (f : Offs H1 cs) (s : Same (lend H1 cs) G) : Same H1 (unl G cs) := fun b u e => by
  have z := off_at f e
  rw [unl_out z]
  exact s _ _ (by rw [lend_out z]; exact e)
theorem unl_at (i : Ins G cs) (n : ∀ o, CelO b o ≠ u) (e : G b = some u) : unl G cs b = some u := by
  rw [unl_out (i.offO e n)]
  exact e
theorem same_unl_lend (f : Offs H1 cs) : Same H1 (unl (lend H1 cs) cs) := unl_of f (fun _ _ e => e)
end
theorem pair_at {α β : Type} {F : α → β → Prop} : ∀ {l : List α} {m : List β}, Paired F l m → ∀ {i : Nat} {a : α}, l[i]? = some a → ∃ b, m[i]? = some b ∧ F a b
  | _, _, .nil, _, _, h => by cases h
  | _, _, .cons r _, 0, _, h => by
    cases h
    exact ⟨_, rfl, r⟩
  | _, _, .cons _ t, i + 1, _, h => pair_at t (i := i) h
/-! ### a lambda to be asked -/
def askSp (cs : List (Addr × Obj)) (σ0 : L2.St) (tb : XK → TE) : Hp → VK → XK → Prop := fun H Q E => tb (fun cls d H' => Offs H' cs → E cls d (lend H' cs)) σ0 (unl H cs) fun v H' => Offs H' cs → Q v (lend H' cs)
/-- the cell of y holds v -/
def Cap (X : Cx) (cs : List (Addr × Obj)) (y : Str) (v : V) : Prop := ∃ (c : Addr) (o : Obj) (u : Value), X.env.cells.lookup y = some c ∧ cs.lookup c = some o ∧ L2.RelV v u ∧ o.data = .cell (some u)
structure CellW (X : Cx) (σ : L2.St) (ys : List (Str × Nat)) (cs : List (Addr × Obj)) : Prop where
  inj : ∀ x y c, X.env.cells.lookup x = some c → X.env.cells.lookup y = some c → x = y
  own : ∀ b o, cs.lookup b = some o → ∃ y, X.env.cells.lookup y = some b ∧ X.fn y = true
  val : ∀ y ∈ ys, ∃ v, σ[y.2]? = some (some v) ∧ Cap X cs y.1 v
theorem CellW.cap {X : Cx} {σ : L2.St} {ys : List (Str × Nat)} {cs : List (Addr × Obj)} (C : CellW X σ ys cs) {y : Str} {i : Nat} {v : V} (m : (y, i) ∈ ys) (e : σ[i]? = some (some v)) : Cap X cs y v := by
  obtain ⟨v', e', h⟩ := C.val _ m
  have z : some (some v') = some (some v) := e'.symm.trans e
  cases z
  exact h
def CapOk (X : Cx) (σ : L2.St) (y : Str × Nat) : Prop := X.N[y.2]? = some y.1 ∧ (∃ v, σ[y.2]? = some (some v)) ∧ X.env.scope.names.lookup y.1 = some .cell ∧ X.fn y.1 = true
section
variable {X : Cx} {pins : List (Addr × Obj)} {σ : L2.St} {H : Hp} {s : Shared}
theorem cellw_of (I : Inv X pins σ H s) : ∀ ys : List (Str × Nat), (∀ y ∈ ys, CapOk X σ y) → ∃ cs, CellW X σ ys cs ∧ Outs H s.heap cs
  | [], _ => ⟨[], ⟨I.ok.inj, (fun _ _ e => by cases e), fun _ m => nomatch m⟩, fun _ _ e => by cases e⟩
  | (y, i) :: ys, h => by
    obtain ⟨cs, V1, O1⟩ := cellw_of I ys fun z m => h z (List.mem_cons_of_mem _ m)
    obtain ⟨hN, ⟨v, hv⟩, hk, hf⟩ := h (y, i) List.mem_cons_self
    obtain ⟨m, _, hl⟩ := I.loc
    obtain ⟨u, r, q⟩ := hl i y v hN hv (.inr (.inl hk))
    have hk' : X.env.kindOf y = some .cell := hk
    rcases q with ⟨k', _⟩ | ⟨_, c, hc, o, ho, hd⟩
    · rw [show X.env.scope.names.lookup y = some .local from k'] at hk
      cases hk
    · have n : H c = none := I.freeC y c hc
      have at_ : ∀ b, ((c, o) :: cs).lookup b = if b = c then some o else cs.lookup b := fun b => by
        by_cases e : b = c
        · subst e
          simp [List.lookup]
        · have e' : (b == c) = false := by simpa using e
          rw [if_neg e]
          simp [List.lookup, e']
      refine ⟨(c, o) :: cs, ⟨I.ok.inj, fun b o' e => ?_, fun z mz => ?_⟩, fun b o' e => ?_⟩
      · rw [at_] at e
        split at e
        · rename_i eb
          rw [eb]
          exact ⟨y, hc, hf⟩
        · exact V1.own b o' e
      · rcases List.mem_cons.mp mz with e | mz
        · rw [e]
          exact ⟨v, hv, c, o, u, hc, by rw [at_, if_pos rfl], r, hd⟩
        · obtain ⟨v2, h4, c2, o2, u2, h1, h2, h5, h6⟩ := V1.val z mz
          refine ⟨v2, h4, c2, o2, u2, h1, ?_, h5, h6⟩
          rw [at_]
          split
          · rename_i eb
            have z1 := (O1 c2 o2 h2).1
            rw [eb, ho] at z1
            rw [Option.some.inj z1]
          · exact h2
      · rw [at_] at e
        split at e
        · rename_i eb
          rw [← Option.some.inj e, eb]
          exact ⟨ho, n⟩
        · exact O1 b o' e
/-- the reading of a call to which the cells of ys are lent -/
def tCallW (X : Cx) (ys : List (Str × Nat)) (sp : Sp) (dvs : List V) (t : TA) : TE := fun σ H Q => t σ H fun vs H1 => (∀ y ∈ ys, CapOk X σ y) ∧
  ∀ cs, CellW X σ ys cs → Offs H1 cs → sp (vs ++ dvs) (lend H1 cs) (fun v H2 => Ins H2 cs ∧ Q v (unl H2 cs)) C8.E0
theorem pe_callW {k : Nat} {f : Addr} {fd : FuncData} {ps : List Str} {sp : Sp} {dvs : List V} {ds : List Value} {x : Str} {p pos : Pos} {e : Expr} {es : List Expr} {t : TA} (ys : List (Str × Nat)) (F : FnOk X.prog X.w X.K X.mg X.base C8.CX0 k f fd ps sp) (hr : Room k X.A) (hg : Gl X x) (hm : X.mg x = some (.ref f)) (hk : PySem.W.keepIn X.K (.ref f) = true) (hb : Binds X.K fd ps ds) (hd : Vals dvs ds)
    (ha : PA X (e :: es) t) (hdb : (x == ("__debug__" : Str)) = false := by decide) (he : starEach (e :: es) X.env = (false, eval e X.env) :: starEach es X.env := by rfl) (hpl : (backTo pos (starEach es X.env)).any (·.1) = false := by rfl) :
    PE X (.Call (.Name x p) (e :: es) [] pos) (tCallW X ys sp dvs t) := by
  refine ⟨fun pins s σ H Q I h => ?_⟩
  refine wpAny_Call_Name_kw (ld_glob I hg hm ?_ hdb)
  refine PySem.W.callWith_K (h₀ := X.base) I.ok.mod.kin hk (thn (ha.run pos pins s σ H _ I h) fun us s1 ⟨vs, H1, I1, r, hy, q⟩ => ⟨I1.kIn, ?_⟩) he hpl
  obtain ⟨cs, V1, O1⟩ := cellw_of I1 ys hy
  have q1 := q cs V1 fun b o z => (O1 b o z).2
  have big : ∀ b o, cs.lookup b = some o → X.s_0.heap.objs.size ≤ b ∧ b ≠ X.env.locals := fun b o z => by
    obtain ⟨y, hc, hf⟩ := V1.own b o z
    exact ⟨I1.ok.cab y b hf hc, I1.cne y b hc⟩
  have e1 := env0_lend I1.env0 O1 (fun b o z => by
    cases e : X.base.get? b with
    | none => rfl
    | some v => exact absurd (Nat.lt_of_lt_of_le (Heap.lt_size e) (Nat.le_trans I1.ok.bsz (big b o z).1)) (Nat.lt_irrefl _)) (fun b o z hb => by
    rcases List.mem_cons.mp (I1.stkSub b hb) with e | hb
    · exact (big b o z).2 e
    · obtain ⟨_, v, ho, _⟩ := I1.ok.funs.mem hb
      exact absurd (Nat.lt_of_lt_of_le (Heap.lt_size ho) (big b o z).1) (Nat.lt_irrefl _))
  have r2 : Vals (vs ++ dvs) (us ++ ds) := r.append hd
  have hl : (us ++ ds).length = ps.length := by
    rw [← r2.length]
    exact F.len _ _ _ _ q1
  refine wpAny_call (codeAny_mono (F.run X.A X.stack s1 (lend H1 cs) ⟨us, []⟩ (us ++ ds) (vs ++ dvs) _ _ hr e1 (hb s1 us I1.kIn hl) r2 q1) fun r s' hq => ?_)
  cases r with
  | error e => exact hq.elim
  | ok fl =>
    cases fl with
    | ret u => exact I1.after (ce_out hq O1)
    | next => exact False.elim hq
    | brk => exact False.elim hq
    | cont => exact False.elim hq
/-- what is raised is raised by no one -/
theorem passF : Passes (L2N.CX X.prog X.w) X (fun _ _ _ => False) := fun pins σ H s e s' I h => by
  obtain ⟨_, _, _, _, _, _, _, _, _, _, _, _, z⟩ := h
  exact z.elim
end
def RMin2 : List V → Hp → VK → Prop := fun xs H Q => ∃ i j, xs = [V.int i, V.int j] ∧ Q (.int (if j < i then j else i)) H
theorem c_min2 {X : Cx} (hc : X.calm = true) : CallR X (.builtin "min") RMin2 := call_min2 hc
theorem min2 {i j : Int} {H : Hp} {Q : VK} (q : Q (.int (if j < i then j else i)) H) : RMin2 [.int i, .int j] H Q := ⟨i, j, rfl, q⟩
def freeB (sc scope : Scope) : Bool := scope.names.all fun y => !decide (y.2 = .free) || decide (sc.names.lookup y.1 = some .cell)
theorem free_ok {qual : Str} {sc scope : Scope} {L f : Addr} {cdv : Value} (h : freeB sc scope = true) : ∀ y ∈ scope.names, y.2 = .free → ∃ c, (envOfC qual sc L f cdv).cells.lookup y.1 = some c := fun y hy e => by
  have z := List.all_eq_true.mp h y hy
  simp only [e, decide_true, Bool.not_true, Bool.false_or, decide_eq_true_eq] at z
  exact Option.isSome_iff_exists.mp (PySem.W.cellsFrom_some _ _ _ (.inl z))
theorem passL {P : Program} {w : World} {K : PySem.W.Frag} {mg : Str → Option Value} {base : Heap} {N : List Str} {F : NF} {f : Addr} {A : Around} {outer : List Env} {s : Shared} {H : Hp} {E : XK} : Passes (L2N.CX P w) (ncx (L2N.CX P w) P w K mg base N F f A outer s H E) E :=
  L2N.passes_call (L2N.takes_of (E₁ := fun e' s'' => L2N.CX P w outer H s E e' s'') rfl rfl rfl rfl) (fun _ _ _ _ h => h)
/-! ### the lambda's closure and its promise -/
section
variable {P : Program} {w : World} {K : PySem.W.Frag} {mg : Str → Option Value} {base : Heap} {k : Nat} {f c' : Addr} {qual : Str} {params : Arguments} {body : Expr} {scope : Scope} {dV doc pm ct : Value} {cs : List (Addr × Obj)} {N ps fr : List Str} {vs : List V} {ws : List V} {fs : List (Addr × HO)} {X : Cx} {σ : L2.St} {ys : List (Str × Nat)}
theorem ask_lam {tb : XK → TE} (S : NScope N ps fr scope) (C : CellW X σ ys cs) (hc : Paired (Cap X cs) fr ws)
    (m1 : (f, FunO f (lamFd "<lambda>" qual params body scope (cloFrom X.env.cells scope.names []) dV doc pm c' ct)) ∈ fs) (m2 : (c', CodeO c' qual) ∈ fs) (m3 : ∀ b o, cs.lookup b = some o → (b, CelO b o) ∈ fs)
    (hbind : ∀ (s : Shared) (H : Hp), HOk P w H s.heap → (∀ p ∈ fs, H p.1 = some p.2) → ∃ us, BindsTo s (lamFd "<lambda>" qual params body scope (cloFrom X.env.cells scope.names []) dV doc pm c' ct) ⟨[], []⟩ (ps.zip us) ∧ Vals vs us) (hl : vs.length = ps.length)
    (hbody : ∀ (A : Around) (outer : List Env) (s : Shared) (H : Hp) (E : XK), Room k (A.deeper (envF ⟨"<lambda>", qual, params, [], scope, cloFrom X.env.cells scope.names [], c'⟩ f s.heap.objs.size)) →
      PE (ncx (L2N.CX P w) P w K mg base N ⟨"<lambda>", qual, params, [], scope, cloFrom X.env.cells scope.names [], c'⟩ f A outer s H E) body (tb E)) :
    AskOk P w K mg base (L2N.CX P w) (k + 1) f fs (askSp cs (startF N vs (ws.map some)) tb) := by
  have cm : ∀ {y c}, (cloFrom X.env.cells scope.names []).lookup y = some c → y ∈ fr ∧ X.env.cells.lookup y = some c := fun {y c} e => by
    rcases cloFrom_mem (PySem.mem_of_lookup e) with hm | ⟨h1, h2⟩
    · cases hm
    · have hy := S.free _ h1 rfl
      obtain ⟨i, hi⟩ := List.mem_iff_getElem?.mp hy
      obtain ⟨v, c1, o, u, e1, e2, _⟩ : ∃ v, Cap X cs y v := by
        obtain ⟨v, _, z⟩ := pair_at hc hi
        exact ⟨v, z⟩
      refine ⟨hy, ?_⟩
      have h2' : c = (X.env.cells.lookup y).getD 0 := h2
      rw [h2', e1]
      rfl
  have capOf : ∀ y, y ∈ fr → ∃ v, Cap X cs y v := fun y hy => by
    obtain ⟨i, hi⟩ := List.mem_iff_getElem?.mp hy
    obtain ⟨v, _, z⟩ := pair_at hc hi
    exact ⟨v, z⟩
  refine ask_of S m1 m2 m3 (by rw [List.length_map]; exact hc.length.symm) (fun x y c e1 e2 => C.inj x y c (cm e1).2 (cm e2).2) (fun y c e => ?_) (fun i y e => ?_) hbind hl fun A outer s H Q E hr hf q => ⟨tb _, hbody A outer s _ _ hr, q⟩
  · obtain ⟨hy, ec⟩ := cm e
    obtain ⟨v, c1, o, u, e1, e2, _, e4⟩ := capOf y hy
    rw [ec] at e1
    cases e1
    exact ⟨o, _, e2, e4⟩
  · have hy := List.mem_of_getElem? e
    have hk := S.frk y hy
    obtain ⟨c2, h2⟩ := mem_lookup (cloFrom_has (cells := X.env.cells) (acc := []) (PySem.mem_of_lookup hk))
    obtain ⟨v, hv, c1, o, u, e1, e2, e3, e4⟩ := pair_at hc e
    have h3 := (cm h2).2
    rw [e1] at h3
    cases h3
    refine ⟨_, o, h2, e2, fun v' z => ?_⟩
    rw [List.getElem?_map, hv] at z
    cases z
    exact ⟨u, e3, e4⟩
end
/-! ### what is tracked within the call -/
def lendFs (cs : List (Addr × Obj)) : List (Addr × HO) := cs.map fun p => (p.1, CelO p.1 ((cs.lookup p.1).getD p.2))
theorem look_mem {cs : List (Addr × Obj)} {b : Addr} {o : Obj} : (b, o) ∈ cs → ∃ o', cs.lookup b = some o' := by
  induction cs with
  | nil => intro h; cases h
  | cons p r ih =>
    intro h
    obtain ⟨c, v⟩ := p
    by_cases e : b = c
    · subst e
      exact ⟨v, by simp [List.lookup]⟩
    · have e' : (b == c) = false := by simpa using e
      rcases List.mem_cons.mp h with h | h
      · cases h
        exact absurd rfl e
      · obtain ⟨o', q⟩ := ih h
        exact ⟨o', by simp [List.lookup, e', q]⟩
theorem mem_look {cs : List (Addr × Obj)} {b : Addr} {o : Obj} : cs.lookup b = some o → (b, o) ∈ cs := by
  induction cs with
  | nil => intro h; cases h
  | cons p r ih =>
    intro h
    obtain ⟨c, v⟩ := p
    simp only [List.lookup] at h
    split at h
    · rename_i e
      cases h
      rw [eq_of_beq e]
      exact List.mem_cons_self
    · exact List.mem_cons_of_mem _ (ih h)
theorem lendFs_mem {cs : List (Addr × Obj)} {b : Addr} {o : Obj} (e : cs.lookup b = some o) : (b, CelO b o) ∈ lendFs cs := by
  refine List.mem_map.mpr ⟨(b, o), mem_look e, ?_⟩
  show (b, CelO b ((cs.lookup b).getD o)) = _
  rw [e]
  rfl
theorem lendFs_ok {H : Hp} {cs : List (Addr × Obj)} (i : Ins H cs) : ∀ p ∈ lendFs cs, H p.1 = some p.2 := fun p hp => by
  obtain ⟨⟨b, o⟩, hq, rfl⟩ := List.mem_map.mp hp
  obtain ⟨o', e⟩ := look_mem hq
  show H b = some (CelO b ((cs.lookup b).getD o))
  rw [e]
  exact i b o' e
section
variable {P : Program} {w : World} {K : PySem.W.Frag} {mg : Str → Option Value} {base : Heap} {k : Nat} {f c' : Addr} {qual : Str} {params : Arguments} {body : Expr} {scope : Scope} {dV doc pm ct : Value} {cs : List (Addr × Obj)} {N fr : List Str} {ws : List V} {X : Cx} {σ : L2.St} {ys : List (Str × Nat)} {H : Hp}
/-- a lambda of no parameter -/
theorem ask0 {tb : XK → TE} (S : NScope N [] fr scope) (C : CellW X σ ys cs) (off : Offs H cs) (hc : Paired (Cap X cs) fr ws) (hF : H f = some (FunO f (lamFd "<lambda>" qual params body scope (cloFrom X.env.cells scope.names []) dV doc pm c' ct))) (hC : H c' = some (CodeO c' qual))
    (hD : DefsAt H dV []) (hb : bindArgs (lamFd "<lambda>" qual params body scope (cloFrom X.env.cells scope.names []) .none doc pm c' ct) ⟨[], []⟩ = pure [])
    (hbody : ∀ (A : Around) (outer : List Env) (s : Shared) (H : Hp) (E : XK), Room k (A.deeper (envF ⟨"<lambda>", qual, params, [], scope, cloFrom X.env.cells scope.names [], c'⟩ f s.heap.objs.size)) →
      PE (ncx (L2N.CX P w) P w K mg base N ⟨"<lambda>", qual, params, [], scope, cloFrom X.env.cells scope.names [], c'⟩ f A outer s H E) body (tb E)) :
    ∃ fs, AskOk P w K mg base (L2N.CX P w) (k + 1) f fs (askSp cs (startF N [] (ws.map some)) tb) ∧ ∀ p ∈ fs, lend H cs p.1 = some p.2 := by
  obtain rfl : dV = .none := hD
  refine ⟨(f, FunO f (lamFd "<lambda>" qual params body scope (cloFrom X.env.cells scope.names []) .none doc pm c' ct)) :: (c', CodeO c' qual) :: lendFs cs, ask_lam S C hc (.head _) (.tail _ (.head _)) (fun b o e => .tail _ (.tail _ (lendFs_mem e))) (fun s H _ _ => ⟨[], .of_eq hb, .nil⟩) rfl hbody, ?_⟩
  intro p hp
  rcases List.mem_cons.mp hp with rfl | hp
  · exact lend_at off hF
  · rcases List.mem_cons.mp hp with rfl | hp
    · exact lend_at off hC
    · exact lendFs_ok lend_ins p hp
/-- a lambda of one parameter, which has its default -/
theorem ask1 {tb : XK → TE} {x : Str} {d : V} (S : NScope N [x] fr scope) (C : CellW X σ ys cs) (off : Offs H cs) (hc : Paired (Cap X cs) fr ws) (hF : H f = some (FunO f (lamFd "<lambda>" qual params body scope (cloFrom X.env.cells scope.names []) dV doc pm c' ct))) (hC : H c' = some (CodeO c' qual)) (hD : DefsAt H dV [d])
    (hb : ∃ k : Option (Array Value) → Sem (List (Str × Value)), bindArgs (lamFd "<lambda>" qual params body scope (cloFrom X.env.cells scope.names []) dV doc pm c' ct) ⟨[], []⟩ = seqItems? (lamFd "<lambda>" qual params body scope (cloFrom X.env.cells scope.names []) dV doc pm c' ct).defaults >>= k ∧ ∀ u, k (some #[u]) = pure [(x, u)])
    (hbody : ∀ (A : Around) (outer : List Env) (s : Shared) (H : Hp) (E : XK), Room k (A.deeper (envF ⟨"<lambda>", qual, params, [], scope, cloFrom X.env.cells scope.names [], c'⟩ f s.heap.objs.size)) →
      PE (ncx (L2N.CX P w) P w K mg base N ⟨"<lambda>", qual, params, [], scope, cloFrom X.env.cells scope.names [], c'⟩ f A outer s H E) body (tb E)) :
    ∃ fs, AskOk P w K mg base (L2N.CX P w) (k + 1) f fs (askSp cs (startF N [d] (ws.map some)) tb) ∧ ∀ p ∈ fs, lend H cs p.1 = some p.2 := by
  obtain ⟨t, rfl, ht⟩ := hD
  refine ⟨(f, FunO f (lamFd "<lambda>" qual params body scope (cloFrom X.env.cells scope.names []) (.ref t) doc pm c' ct)) :: (c', CodeO c' qual) :: (t, .tup [d]) :: lendFs cs, ask_lam S C hc (.head _) (.tail _ (.head _)) (fun b o e => .tail _ (.tail _ (.tail _ (lendFs_mem e)))) (fun s H hok hf => ?_) rfl hbody, ?_⟩
  · have z : ObjOk P w H s.heap t (.tup [d]) := hok t _ (hf _ (.tail _ (.tail _ (.head _))))
    obtain ⟨_, its, rv, o, ho, _, n, hd⟩ := z
    cases rv with
    | cons r1 r2 =>
      cases r2
      obtain ⟨kk, h1, h2⟩ := hb
      exact ⟨_, BindsTo.of_defaults (T := t) rfl ho hd h1 (h2 _), .cons r1 .nil⟩
  · intro p hp
    rcases List.mem_cons.mp hp with rfl | hp
    · exact lend_at off hF
    · rcases List.mem_cons.mp hp with rfl | hp
      · exact lend_at off hC
      · rcases List.mem_cons.mp hp with rfl | hp
        · exact lend_at off ht
        · exact lendFs_ok lend_ins p hp
end
end LendN
namespace Kk
open PySem L2 PyProof.Rows

end Kk
namespace IfX
open PySem PySem.Spec PyProof.Rows L2
/-! ### a if c else b as a test -/
def tIfT (t u v : TT) : TT := fun σ H Q => t σ H fun c H1 => if c = true then u σ H1 Q else v σ H1 Q
theorem pt_ifExp {X : Cx} {c a b : Expr} {pos : Pos} {t u v : TT} (hc : PT X c t) (ha : PT X a u) (hb : PT X b v) : PT X (.IfExp c a b pos) (tIfT t u v) := by
  refine ⟨fun pins s σ H Q I hw => ?_⟩
  refine isTrue_IfExp (thn (hc.run pins s σ H _ I hw) fun k s1 ⟨H1, I1, q1⟩ => ?_)
  cases k with
  | true => exact ha.run pins s1 σ H1 Q I1 q1
  | false => exact hb.run pins s1 σ H1 Q I1 q1
theorem hr65 {k : Nat} {A : Around} (r : Room k A) : A.units + 65 < cLine := by
  have := r.un
  omega
end IfX
namespace Kk
open PySem L2 PyProof.Rows

/-! ### enumerate of a list or a tuple -/
set_option maxHeartbeats 4000000 in
theorem enum_new_any {v : Value} {ob : Obj} {St : Heap → Prop} (B : Begins v ob St) :
    Meets (Builtin.«enumerate.__new__» ⟨[.type "enumerate", v], []⟩) (fun _ R s => St s.heap ∧ R (.ok (.ret (.ref (s.heap.push ob).objs.size)))
      { s with heap := (s.heap.push ob).push { cls := .type "enumerate", data := .fields #[.none, .bool false, .ref s.heap.objs.size, rawInt 0, .none, .none] } }) :=
  .of_wp fun P w A R s hs => by
    obtain ⟨hp, gg, dd, tt, oo⟩ := s
    obtain ⟨k1, k2⟩ := hs
    have sube := sub_enumerate
    have it : ∀ {A' : Around} {E' : Value → Shared → Prop} {Q' : Value → Shared → Prop}, Q' (.ref hp.objs.size) ⟨hp.push ob, gg, dd, tt, oo⟩ → wpAny (model P w) A' (pyIter v) Q' E' ⟨hp, gg, dd, tt, oo⟩ := fun q => B.iter _ _ _ _ ⟨hp, gg, dd, tt, oo⟩ _ k1 q
    wp_walk using it
    refine wpAny_stack_any fun _ => wpAny_pure ?_
    split
    · rename_i c _ _ _ _ _
      cases (c == Value.type "enumerate")
      · (wp_walk using it); exact ⟨_, rfl, k2⟩
      · (wp_walk using it); exact ⟨_, rfl, k2⟩
    · (wp_walk using it); exact ⟨_, rfl, k2⟩
theorem call_enum_any {P : Program} {w : World} {A : Around} {E : Value → Shared → Prop} {s : Shared} {v : Value} {ob : Obj} {St : Heap → Prop} {Q : Value → Shared → Prop} (B : Begins v ob St) (hs : St s.heap)
    (k : ∀ h', IsEnum h' (s.heap.objs.size + 1) s.heap.objs.size 0 .none → h'.get? s.heap.objs.size = some ob → (∀ b o, s.heap.get? b = some o → h'.get? b = some o) → Q (.ref (s.heap.objs.size + 1)) { s with heap := h' }) :
    wpAny (model P w) A (call (.type "enumerate") [v]) Q E s := by
  have z : (s.heap.push ob).objs.size = s.heap.objs.size + 1 := Heap.size_push ..
  refine callType_new PySem.F.called_enumerate (by decide) (PySem.F.typeCall_enumerate_1 _) (PySem.F.newCall_enumerate_1 _) (fun q => PySem.F.args_object_init_2 q _) PySem.F.entry_enumerate_new (enum_new_any B) ⟨hs, ?_⟩
  have e : IsEnum ((s.heap.push ob).push { cls := .type "enumerate", data := .fields #[.none, .bool false, .ref s.heap.objs.size, rawInt 0, .none, .none] }) (s.heap.objs.size + 1) s.heap.objs.size 0 .none := by
    have q := Heap.get?_push_size (s.heap.push ob) (o := { cls := .type "enumerate", data := .fields #[.none, .bool false, .ref s.heap.objs.size, rawInt 0, .none, .none] }) rfl
    rw [z] at q
    exact q
  show _ ∧ _
  rw [z]
  exact ⟨⟨_, e, rfl⟩, k _ e (Heap.get?_push_of_some _ (Heap.get?_push_size _ B.free)) fun b o x => Heap.get?_push_of_some _ (Heap.get?_push_of_some _ x)⟩
theorem enum_endT {P : Program} {w : World} {A : Around} {E : Value → Shared → Prop} {s : Shared} {e it a : Addr} {i : Nat} {xs : Array Value} {old : Value} {Q : Option Value → Shared → Prop} (hh : A.handled = none)
    (he : IsEnum s.heap e it i old) (hit : s.heap.IsTupleIter it a i) (ht : s.heap.IsTuple a xs) (hx : xs[i]? = none) (k : ∀ h', Heap.ExtBut it s.heap h' → Q none { s with heap := h' }) : wpAny (model P w) A (pyNext (.ref e)) Q E s := by
  have ty : s.TypeIs (.ref e) "enumerate" := ⟨_, he, rfl⟩
  unfold pyNext
  refine wpAny_bind (wpAny_attempt (wpAny_callSpecial?_slot (name := Str.ofString "__next__") ty PySem.F.slot_enumerate_next
    (wpAny_call_entry PySem.F.slot_enumerate_next ty PySem.F.entry_enumerate_next ?_ (PySem.F.args_enumerate_next_1 _))))
  show wpAny _ _ (PySem.field (.ref e) 2 >>= _) _ _ _
  refine wpAny_bind (wpAny_field he rfl (x := .ref it) rfl (wpAny_bind (wpAny_nextOf_tuple_end hh hit ht hx fun h' x he' hx' => ?_)))
  obtain ⟨o, ho, hc⟩ := hx'
  exact wpAny_bind (wpAny_isInstance (T := "StopIteration") (b := true) ⟨o, ho, hc⟩ isSubtype_stop (wpAny_pure (k _ he')))
/-- the tuple at a, each item in a new pair -/
def IteT (K : PySem.W.Frag) (a : Addr) : It :=
  ⟨fun i H => ∃ (xs : List V) (x : V), SqT K H a xs ∧ xs[i]? = some x,
    fun i H v H' => ∃ T x, v = .ref T ∧ H T = none ∧ H' = upd H T (.tup [.int (i : Nat), x]) ∧ ∀ xs, SqT K H a xs → xs[i]? = some x,
    fun i H => ∃ xs : List V, SqT K H a xs ∧ xs.length ≤ i⟩
theorem turn_enumT {P : Program} {w : World} {K : PySem.W.Frag} {elts : List Expr} {kk : Nat} {tpos : Pos} (a e it : Addr) :
    Turn P w K (.Tuple elts kk tpos) (IteT K a) [e, it] e (fun i h => (∃ old, IsEnum h e it ((i : Nat) : Int) old) ∧ h.IsTupleIter it a i ∧ e ≠ it ∧ a ≠ it ∧ a ≠ e) where
  mem := by simp
  obj := fun i h st b hb => by
    obtain ⟨⟨old, he⟩, ⟨o, ho, hc, hd⟩, _⟩ := st
    rcases (show b = e ∨ b = it by simpa using hb) with rfl | rfl
    · exact ⟨_, he, fun v q => nomatch q⟩
    · exact ⟨o, ho, fun v q => by rw [hd] at q; cases q⟩
  keep := fun i h h' st k => let ⟨⟨old, he⟩, hi, n⟩ := st; ⟨⟨old, k e (by simp) _ he⟩, hi.at fun o q => k it (by simp) o q, n⟩
  item := by
    intro X hP hw hK hc i pins s σ H E I hf st hg
    subst hP hw hK
    obtain ⟨⟨old, he⟩, hit, hne, hai, hae⟩ := st
    obtain ⟨xs, x, hq, hx⟩ := hg
    obtain ⟨its, rv, p, hz⟩ := I.tuple hq
    obtain ⟨u, hu, ru⟩ := rv.get hx
    have le : e < s.heap.objs.size := Heap.lt_size he
    have li : it < s.heap.objs.size := let ⟨_, q, _⟩ := hit; Heap.lt_size q
    have hlt : i < its.toArray.size := by
      have := (List.getElem?_eq_some_iff.mp hu).1
      simpa using this
    refine wpAny_pyNext_enum_itemD (Draws.tuple (A := X.A.in1) (show X.A.in1.handled = none from I.ok.hd hc) it a hai its.toArray) he ⟨hit, p⟩ hlt hne (by simp [hne, Ne.symm hae]) fun x' h' tk hP ho st' hT hsz hk => ?_
    obtain rfl : x' = u := by
      have q : its.toArray[i]? = some u := by simpa using hu
      rw [q] at hP
      exact (Option.some.inj hP).symm
    refine ⟨_, rfl, wpAny_letOwnedTupleGo_enum (s := { s with heap := h', toks := tk + 1 }) ho fun h'' he' sb => ?_⟩
    have hT2 : h''.get? s.heap.objs.size = some { cls := .type "tuple", data := .seq #[.int i tk, x'] } := (sb.2 _ (Nat.ne_of_gt le)).trans hT
    have new : ObjOk X.prog X.w (upd H s.heap.objs.size (.tup [.int (i : Nat), x])) h'' s.heap.objs.size (.tup [.int (i : Nat), x]) :=
      ⟨(by show 2 ≤ sizeLine; decide), [.int i tk, x'], .cons ⟨_, rfl⟩ (.cons ru .nil), ⟨_, hT2, rfl, _, rfl⟩⟩
    have I1 : Inv X pins σ (upd H s.heap.objs.size (.tup [.int (i : Nat), x])) { s with heap := h'', toks := tk + 1 } :=
      I.turnedNew (t' := tk + 1) (ch := [e, it]) (fun b ob hb q => (sb.2 b (fun z => hb (by rw [z]; simp))).trans (hk b ob (fun z => hb (by rw [z]; simp)) (fun z => hb (by rw [z]; simp)) q)) hf (Nat.le_refl _) new
    refine ⟨.ref s.heap.objs.size, _, I1, rfl, ⟨_, x, rfl, I.hok.fresh (Nat.le_refl _), rfl, fun ys hy => by rw [I.tuple_inj hy hq]; exact hx⟩, ⟨⟨x', ?_⟩, st'.1.at fun o q => (sb.2 it (Ne.symm hne)).trans q, hne, hai, hae⟩, fun b hb => ?_⟩
    · rw [show ((i + 1 : Nat) : Int) = (i : Int) + 1 by omega]
      exact he'
    · have hb' : b < s.heap.objs.size := by
        rcases (show b = e ∨ b = it by simpa using hb) with z | z
        · rw [z]; exact le
        · rw [z]; exact li
      rw [upd_ne (Nat.ne_of_lt hb')]
      exact (hf b hb).1
  done := by
    intro X hP hw hK hc i pins s σ H E I hf st hg
    subst hP hw hK
    obtain ⟨⟨old, he⟩, hit, hne, hai, hae⟩ := st
    obtain ⟨xs, hq, hx⟩ := hg
    obtain ⟨its, rv, p, hz⟩ := I.tuple hq
    obtain ⟨f0, f1, f2, f3, f4, f5⟩ := hf it (by simp)
    have hl := rv.length
    exact enum_endT (I.ok.hd hc) he hit p (by simp; omega) fun h' eb => ⟨rfl, I.turned (t' := s.toks) (fun b o hb q => eb b o hb q) f0 f1 f3 f4 f5⟩
  self := fun A i s Q E st h => let ⟨⟨_, he⟩, _⟩ := st; wpAny_pyIter_enum he h
/-- enumerate(e), e a list or a tuple -/
def iEnumA (K : PySem.W.Frag) (ta : TA) : TI := fun σ H R => ta σ H fun vs H1 => ∃ a xs, vs = [.ref a] ∧ ((SqL K H1 a xs ∧ R (Ite K a) H1) ∨ (SqT K H1 a xs ∧ R (IteT K a) H1))
theorem pi_enumA {X : Cx} {e : Expr} {ta : TA} {p pos tpos : Pos} {elts : List Expr} {kk : Nat} (hg : Gl X "enumerate") (hm : X.mg "enumerate" = none) (ha : PA X [e] ta) (hs : starEach [e] X.env = [(false, eval e X.env)] := by rfl) :
    PI X (.Tuple elts kk tpos) (.Call (.Name "enumerate" p) [e] [] pos) (iEnumA X.K ta) := by
  refine ⟨fun pins s σ H R I h => ?_⟩
  refine Call_ (ld_blt I hg hm boot_enumerate (PyProof.Rows.callWith_type1 (thn (ha.run pos pins s σ H _ I h) fun us s1 ⟨vs, H1, I1, r1, a, xs, ex, q1⟩ => ?_) hs rfl))
  subst ex
  cases r1 with
  | cons r rr =>
    cases rr
    cases r
    have isn : ∀ b ∈ [s1.heap.objs.size + 1, s1.heap.objs.size], s1.heap.objs.size ≤ b := fun b hb => by
      rcases (show b = s1.heap.objs.size + 1 ∨ b = s1.heap.objs.size by simpa using hb) with z | z
      · rw [z]; exact Nat.le_add_right _ _
      · rw [z]; exact Nat.le_refl _
    rcases q1 with ⟨hq, q⟩ | ⟨hq, q⟩
    · obtain ⟨its, rv, p', hz⟩ := I1.list hq
      refine call_enumerate_list p'.isList fun h' he hit hsz hk => wpAny_pyIter_enum he ?_
      have I2 : Inv X pins σ H1 { s1 with heap := h' } := I1.kept (t' := s1.toks) hk
      exact ⟨s1.heap.objs.size + 1, [s1.heap.objs.size + 1, s1.heap.objs.size], _, _, H1, rfl, I2, turn_enum a (s1.heap.objs.size + 1) s1.heap.objs.size, ⟨⟨.none, he⟩, hit, Nat.succ_ne_self _⟩, fun b hb => I1.fpOk (isn b hb) (I1.hok.fresh (isn b hb)), q⟩
    · obtain ⟨its, rv, p', hz⟩ := I1.tuple hq
      have la : a < s1.heap.objs.size := by obtain ⟨o, e, _⟩ := p'; exact Heap.lt_size e
      refine call_enum_any (begins_tuple a its.toArray) p' fun h' he hit hk => wpAny_pyIter_enum he ?_
      have I2 : Inv X pins σ H1 { s1 with heap := h' } := I1.kept (t' := s1.toks) hk
      exact ⟨s1.heap.objs.size + 1, [s1.heap.objs.size + 1, s1.heap.objs.size], _, _, H1, rfl, I2, turn_enumT a (s1.heap.objs.size + 1) s1.heap.objs.size, ⟨⟨.none, he⟩, ⟨_, hit, rfl, rfl⟩, Nat.succ_ne_self _, Nat.ne_of_lt la, Nat.ne_of_lt (Nat.lt_succ_of_lt la)⟩, fun b hb => I1.fpOk (isn b hb) (I1.hok.fresh (isn b hb)), q⟩
theorem walk_enumT {K : PySem.W.Frag} {a : Addr} {xs : List V} : Walk (IteT K a) xs.length (fun H => SqT K H a xs) (YPair (fun i => some (.int (i : Nat))) (fun i => xs[i]?)) := by
  refine ⟨fun i _ hi q => ⟨xs, xs[i], q, List.getElem?_eq_getElem hi⟩, fun _ q => ⟨xs, q, Nat.le_refl _⟩, fun i H v H' _ q y => ?_⟩
  obtain ⟨T, x, h1, h2, h3, h4⟩ := y
  exact ⟨T, .int (i : Nat), x, h1, h2, h3, rfl, h4 xs q⟩
/-! ### a call below the running body; len, bool, repr, == and != by the text's own methods -/
theorem tyx_looks {X : Cx} {pins : List (Addr × Obj)} {σ : L2.St} {H : Hp} {s : Shared} {y : V} {v t : Value} (I : Inv X pins σ H s) (ry : RelV y v) (ty : TyX X.K H y t) : PySem.W.Looks (model X.prog X.w) s.heap (typeOf v) t :=
  let ⟨_, Z, p, _⟩ := kit_of I ry ty; Z.ty _ _ I.kIn p
section
variable {X : Cx} {CX : CXT} {n : Nat} {f C : Addr} {fd : FuncData} {ps : List Str} {sp : Sp} {E : XK}
theorem run_at (F : FnOk X.prog X.w X.K X.mg X.base CX n f fd ps sp) (hb : Binds X.K fd ps []) (hx : Passes CX X E) {A : Around} (sb : Sub X n A) {pins : List (Addr × Obj)} {σ : L2.St} {H : Hp} {s : Shared} {us : List Value} {vs : List V} {Q : VK} (I : Inv X pins σ H s) (r : Vals vs us) (h : sp vs H Q E) :
    wpAny (model X.prog X.w) A (call (.ref f) us) (EP X pins σ Q) X.xe s := by
  have e0 : Env0 X.prog X.w X.K X.mg X.base A X.stack s H :=
    let e := I.env0
    ⟨by rw [sb.fr]; exact e.frames, e.mod, e.bs, e.bsz, e.funs, e.frf, e.hok, e.bare⟩
  have hl : (us ++ ([] : List Value)).length = ps.length := by
    rw [List.append_nil, ← r.length]
    exact F.len _ _ _ _ h
  have bd := hb s us I.kIn hl
  rw [List.append_nil] at bd
  refine wpAny_call (codeAny_mono (F.run A X.stack s H ⟨us, []⟩ us vs Q E sb.room e0 bd r h) fun r s' hq => ?_)
  cases r with
  | error e => exact hx pins σ H s e s' I hq
  | ok fl => cases fl <;> first | exact I.after hq | exact False.elim hq
/-- a special method of the class at C is the def at f -/
def Spc (K : PySem.W.Frag) (C : Addr) (m : Str) (f : Addr) : Prop := PySem.W.findIn K (.ref C) m = some (some (.ref f)) ∧ PySem.W.isFn K (.ref f) = true
theorem call_lenO (F : FnOk X.prog X.w X.K X.mg X.base CX n f fd ps sp) (hr : Room (n + 1) X.A) (hs : Spc X.K C "__len__" f) (hb : Binds X.K fd ps []) (hx : Passes CX X E) :
    CallR X (.builtin "len") (fun xs H Q => ∃ a dx fs, xs = [.ref a] ∧ H a = some (.ins C dx fs) ∧ sp [.ref a] H (fun v H' => ∃ i : Int, v = .int i ∧ 0 ≤ i ∧ i < 2 ^ 63 ∧ Q (.int i) H') E) := by
  intro pins s σ H xs us Q I r h
  obtain ⟨a, dx, fs, rfl, ea, q⟩ := h
  obtain ⟨u, rfl, ru⟩ := vals1 r
  cases ru
  obtain ⟨mA, J, _⟩ := ins_get I.hok ea
  obtain ⟨od, J, _⟩ := J.look
  obtain ⟨m, hF⟩ := I.fr
  refine PySem.W.len_K hF I.ok.mod.kin J hs.1 hs.2 (wpAny_mono (run_at F hb hx (⟨hr, rfl⟩ : Sub X (n + 1) X.A).in1 I r q) (fun v s' z => ?_) fun _ _ x => x)
  obtain ⟨v', H', I', rv, i, rfl, h0, h1, q'⟩ := z
  obtain ⟨t, rfl⟩ := rv
  exact ⟨⟨h0, h1⟩, .int i, H', I'.tok _, ⟨_, rfl⟩, q'⟩
theorem call_reprO (F : FnOk X.prog X.w X.K X.mg X.base CX n f fd ps sp) (hr : Room (n + 1) X.A) (hs : Spc X.K C "__repr__" f) (hb : Binds X.K fd ps []) (hx : Passes CX X E) :
    CallR X (.builtin "repr") (fun xs H Q => ∃ a dx fs, xs = [.ref a] ∧ H a = some (.ins C dx fs) ∧ sp [.ref a] H (fun v H' => ∃ z : Str, v = .str z ∧ Q (.str z) H') E) := by
  intro pins s σ H xs us Q I r h
  obtain ⟨a, dx, fs, rfl, ea, q⟩ := h
  obtain ⟨u, rfl, ru⟩ := vals1 r
  cases ru
  obtain ⟨mA, J, _⟩ := ins_get I.hok ea
  obtain ⟨od, J, _⟩ := J.look
  obtain ⟨m, hF⟩ := I.fr
  refine PySem.W.repr_K (hu_of hr) hF I.ok.mod.kin J hs.1 hs.2 (wpAny_mono (run_at F hb hx (⟨hr, rfl⟩ : Sub X (n + 1) X.A).in1 I r q) (fun v s' z => ?_) fun _ _ x => x)
  obtain ⟨v', H', I', rv, i, rfl, q'⟩ := z
  obtain ⟨t, rfl⟩ := rv
  exact ⟨.str i, H', I', ⟨_, rfl⟩, q'⟩
theorem bool_newIn {P : Program} {w : World} {x : Value} : MeetsIn P w (Builtin.«bool.__new__» ⟨[.type "bool", x], []⟩)
    (fun A R s => wpAny (model P w) A.in1 (truthy x) (fun b s' => R (.ok (.ret (.bool b))) s') (fun e s' => R (.error e) s') s) :=
  MeetsIn.of_wp fun A R s hs => by
    have f1 := PySem.F.conv_sub_bool
    obtain ⟨hp, g, d, tk, os⟩ := s
    repeat (any_goals (first | assumption | wp_step))
    exact wpAny_mono hs (fun b s' q => wpAny_pure ⟨_, rfl, q⟩) fun _ _ x => x
theorem call_boolO (F : FnOk X.prog X.w X.K X.mg X.base CX n f fd ps sp) (hr : Room (n + 2) X.A) (hs : Spc X.K C "__bool__" f) (hb : Binds X.K fd ps []) (hx : Passes CX X E) :
    CallR X (.type "bool") (fun xs H Q => ∃ a dx fs, xs = [.ref a] ∧ H a = some (.ins C dx fs) ∧ sp [.ref a] H (fun v H' => ∃ k : Bool, v = .bl k ∧ Q (.bl k) H') E) := by
  intro pins s σ H xs us Q I r h
  obtain ⟨a, dx, fs, rfl, ea, q⟩ := h
  obtain ⟨u, rfl, ru⟩ := vals1 r
  cases ru
  obtain ⟨mA, J, _⟩ := ins_get I.hok ea
  obtain ⟨od, J, _⟩ := J.look
  obtain ⟨m, hF⟩ := I.fr
  refine callType_newIn PySem.F.called_bool PySem.F.newNe_bool (PySem.F.typeCall_bool_1 _) (PySem.F.newCall_bool_1 _) (fun o => PySem.F.args_object_init_2 o _) PySem.F.entry_bool_new bool_newIn ?_
  refine PySem.W.truthy_K hF I.ok.mod.kin J hs.1 hs.2 (wpAny_mono (run_at F hb hx ((⟨hr, rfl⟩ : Sub X (n + 2) X.A).in1).in1 I r q) (fun v s' z => ?_) fun _ _ x => x)
  obtain ⟨v', H', I', rv, k, rfl, q'⟩ := z
  cases rv
  exact ⟨rfl, .bl k, H', I', rfl, q'⟩
/-- what stands on the right of an own ==: its type, as the class sees it -/
def RhsT (K : PySem.W.Frag) (C : Addr) (H : Hp) (y : V) : Prop := ∃ t, TyX K H y t ∧ PySem.W.notFirst K C t = true
theorem op_eqO (F : FnOk X.prog X.w X.K X.mg X.base CX n f fd ps sp) (hr : Room n X.A) (hs : Spc X.K C "__eq__" f) (hb : Binds X.K fd ps []) (hx : Passes CX X E) :
    OpR X (compareOp .Eq) (fun x y H Q => ∃ a dx fs, x = .ref a ∧ H a = some (.ins C dx fs) ∧ RhsT X.K C H y ∧ sp [.ref a, y] H (fun v H' => ∃ k : Bool, v = .bl k ∧ Q (.bl k) H') E) := by
  intro pins s σ H x y u v Q I rx ry h
  obtain ⟨a, dx, fs, rfl, ea, ⟨t, ty, nf⟩, q⟩ := h
  cases rx
  obtain ⟨mA, J, _⟩ := ins_get I.hok ea
  obtain ⟨od, J, _⟩ := J.look
  obtain ⟨m, hF⟩ := I.fr
  show wpAny (model X.prog X.w) X.A (richCompare .Eq (.ref a) v) (EP X pins σ Q) X.xe s
  refine PySem.W.cmp_K (op := .Eq) (tb := t) hr.units0 hF I.ok.mod.kin J (tyx_looks I ry ty) nf hs.1 hs.2 (wpAny_mono (run_at F hb hx (⟨hr, rfl⟩ : Sub X n X.A) I (show Vals [V.ref a, y] [Value.ref a, v] from .cons rfl (.cons ry .nil)) q) (fun v s' z => ?_) fun _ _ x => x)
  obtain ⟨v', H', I', rv, k, rfl, q'⟩ := z
  cases rv
  exact ⟨.bl k, H', I', rfl, q'⟩
/-- != of a class that has no __ne__ of its own -/
theorem op_neO (F : FnOk X.prog X.w X.K X.mg X.base CX n f fd ps sp) (hr : Room (n + 2) X.A) (hs : Spc X.K C "__eq__" f) (hn : PySem.W.findIn X.K (.ref C) "__ne__" = some (some (.builtin "object.__ne__"))) (hm : PySem.W.mroIn X.K C (.type "object") = some true) (hb : Binds X.K fd ps []) (hx : Passes CX X E) :
    OpR X (compareOp .NotEq) (fun x y H Q => ∃ a dx fs, x = .ref a ∧ H a = some (.ins C dx fs) ∧ RhsT X.K C H y ∧ sp [.ref a, y] H (fun v H' => ∃ k : Bool, v = .bl k ∧ Q (.bl (!k)) H') E) := by
  intro pins s σ H x y u v Q I rx ry h
  obtain ⟨a, dx, fs, rfl, ea, ⟨t, ty, nf⟩, q⟩ := h
  cases rx
  obtain ⟨mA, J, _⟩ := ins_get I.hok ea
  obtain ⟨od, J, _⟩ := J.look
  obtain ⟨m, hF⟩ := I.fr
  have lk := tyx_looks I ry ty
  have sub : PySem.W.Looks (model X.prog X.w) s.heap (isInstance (.ref a) (.type "object")) true := J.type.andThen (PySem.W.looks_mroIn I.kIn hm)
  -- the body of object.__ne__
  have own : wpAny (model X.prog X.w) X.A (call (.builtin "object.__ne__") [.ref a, v]) (fun u s' => ∃ k : Bool, u = .bool k ∧ EP X pins σ Q (.bool k) s') X.xe s := by
    refine wpAny_call (codeAny_call_builtin PySem.F.cmp_object.ne.plain PySem.F.cmpEntry_ne (PySem.W.check_slot PySem.F.cmpKind_ne PySem.F.cmpSplit_ne sub (PySem.F.cmpArgs_ne _ _) ?_))
    have hu1 : X.A.in1.units < cLine := hu_of hr
    have eqc : wpAny (model X.prog X.w) X.A.in1 (callSpecialIfBound? (.ref a) "__eq__" [v]) (fun r s' => ∃ k : Bool, r = some (.bool k) ∧ EP X pins σ Q (.bool (!k)) s') X.xe s := by
      refine PySem.W.ifBound_K I.kIn J hs.1 hs.2 (wpAny_mono (run_at F hb hx ((⟨hr.mono (Nat.le_succ _), rfl⟩ : Sub X (n + 1) X.A).in1) I (show Vals [V.ref a, y] [Value.ref a, v] from .cons rfl (.cons ry .nil)) q) (fun w s' z => ?_) fun _ _ x => x)
      obtain ⟨v', H', I', rv, k, rfl, q'⟩ := z
      cases rv
      exact ⟨k, rfl, .bl (!k), H', I', rfl, q'⟩
    unfold Builtin.«object.__ne__»
    repeat (first
      | with_reducible refine wpAny_cRoomFor hu1 ?_
      | (refine wpAny_bind (m := callSpecialIfBound? (.ref a) (Str.ofString "__eq__") [v]) (wpAny_mono eqc (fun r s' z => ?_) fun _ _ x => x)
         obtain ⟨k, rfl, z⟩ := z
         repeat (first | (refine wpAny_bind (m := truthy (.bool _)) (wpAny_truthy_bool ?_)) | wp_step))
      | wp_step)
    all_goals exact ⟨_, rfl, z⟩
  have bn := PySem.F.cmp_object.ne.bind (Value.ref a)
  have fin : ∀ s', s' = s → wpAny (model X.prog X.w) X.A (call (.builtin "object.__ne__") ([.ref a] ++ [v]) >>= fun r => pure (some r)) (fun r s' => ∃ k : Bool, r = some (.bool k) ∧ EP X pins σ Q (.bool k) s') X.xe s' := fun s' e => by
    rw [e]
    refine wpAny_bind (wpAny_mono own (fun r s' z => ?_) fun _ _ x => x)
    obtain ⟨k, rfl, z⟩ := z
    exact wpAny_pure ⟨k, rfl, z⟩
  have isb : wpAny (model X.prog X.w) X.A (callSpecialIfBound? (.ref a) "__ne__" [v]) (fun r s' => ∃ k : Bool, r = some (.bool k) ∧ EP X pins σ Q (.bool k) s') X.xe s := by
    simp only [callSpecialIfBound?, bindSpecialIfBound?]
    refine wpAny_holding ?_
    refine wpAny_bind (wpAny_bind (wpAny_bind (J.type.here ?_)))
    refine (PySem.W.looks_findIn I.kIn hn).here ?_
    refine wpAny_bind (wpAny_askSetting (wpAny_ite ?_))
    split
    · exact wpAny_bind (wpAny_of_eq bn (wpAny_pure (fin s rfl)))
    · exact wpAny_tryCatch (wpAny_bind (wpAny_of_eq bn (wpAny_pure (fin s rfl))))
  have one : wpAny (model X.prog X.w) X.A (tryCompare (.ref a) "__ne__" v) (fun r s' => ∃ z, r = some z ∧ EP X pins σ Q z s') X.xe s := by
    unfold tryCompare
    refine wpAny_bind (wpAny_mono isb (fun r s' z => ?_) fun _ _ x => x)
    obtain ⟨k, rfl, z⟩ := z
    exact wpAny_pure ⟨_, rfl, z⟩
  have last : wpAny (model X.prog X.w) X.A (tryCompare (.ref a) "__ne__" v >>= fun r => match r with | some z => pure z | x => unsupported "") (EP X pins σ Q) X.xe s := by
    refine wpAny_bind (wpAny_mono one (fun r s' z => ?_) fun _ _ x => x)
    obtain ⟨z, rfl, hq⟩ := z
    exact wpAny_pure hq
  show wpAny (model X.prog X.w) X.A (richCompare .NotEq (.ref a) v) (EP X pins σ Q) X.xe s
  unfold richCompare
  simp only [oneThing_ref]
  refine wpAny_holding ?_
  refine wpAny_bind (wpAny_cRoomFor hr.units0 ?_)
  refine wpAny_bind (J.type.here ?_)
  refine wpAny_bind (lk.here ?_)
  have tail : ∀ {k : Option Value → Sem Value}, (∀ z, k (some z) = pure z) → wpAny (model X.prog X.w) X.A (tryCompare (.ref a) "__ne__" v >>= k) (EP X pins σ Q) X.xe s := fun {k} e => by
    refine wpAny_bind (wpAny_mono one (fun r s' z => ?_) fun _ _ x => x)
    obtain ⟨z, rfl, hq⟩ := z
    rw [e]
    exact wpAny_pure hq
  split
  · rename_i dif
    have e : PySem.W.subIn X.K t (.ref C) = some false := by
      rcases Bool.or_eq_true_iff.mp nf with e | e
      · rw [beq_iff_eq.mp e] at dif
        simp at dif
      · exact beq_iff_eq.mp e
    refine wpAny_bind ((PySem.W.looks_subIn I.kIn e).here ?_)
    exact tail fun z => rfl
  · exact wpAny_bind (wpAny_pure (tail fun z => rfl))
end
/-! ### isinstance of an own class -/
def six : List String := ["NoneType", "bool", "int", "str", "list", "tuple"]
structure IsK (K : PySem.W.Frag) (C : Addr) : Prop where
  ins : C8.InsC K C
  no : ∀ t ∈ six, PySem.W.kitOne K (.type t) (.ref C) = some false
  ne : PySem.W.findIn K (.ref C) "__ne__" = some (some (.builtin "object.__ne__"))
theorem isk_six {K : PySem.W.Frag} {C : Addr} (a : PySem.W.kitOne K (.type "NoneType") (.ref C) = some false) (b : PySem.W.kitOne K (.type "bool") (.ref C) = some false) (c : PySem.W.kitOne K (.type "int") (.ref C) = some false) (d : PySem.W.kitOne K (.type "str") (.ref C) = some false) (e : PySem.W.kitOne K (.type "list") (.ref C) = some false) (f : PySem.W.kitOne K (.type "tuple") (.ref C) = some false) : ∀ t ∈ six, PySem.W.kitOne K (.type t) (.ref C) = some false := by
  intro t m
  simp only [six, List.mem_cons, List.not_mem_nil, or_false] at m
  rcases m with rfl | rfl | rfl | rfl | rfl | rfl <;> assumption
theorem notFirst_of {K : PySem.W.Frag} {C : Addr} {t : String} (h : PySem.W.kitOne K (.type t) (.ref C) = some false) : PySem.W.notFirst K C (.type t) = true := by
  unfold PySem.W.kitOne at h
  split at h
  · cases h
  · unfold PySem.W.kitCls at h
    dsimp only at h
    split at h
    · unfold PySem.W.notFirst
      rw [h]
      simp
    · cases h
theorem TyX.insK {K : PySem.W.Frag} {C a dx : Addr} {H : Hp} {fs : List (Str × V)} (I : IsK K C) (e : H a = some (.ins C dx fs)) : TyX K H (.ref a) (.ref C) := .base (.ins e I.ins.cl I.ins.ha I.ins.hn I.ins.htk I.ins.hm)
theorem RhsT.ins {K : PySem.W.Frag} {C a dx : Addr} {H : Hp} {fs : List (Str × V)} (I : IsK K C) (e : H a = some (.ins C dx fs)) : RhsT K C H (.ref a) := ⟨_, TyX.insK I e, by unfold PySem.W.notFirst; rw [beq_self_eq_true]; rfl⟩
theorem RhsT.six {K : PySem.W.Frag} {C : Addr} {H : Hp} {y : V} {t : String} (I : IsK K C) (m : t ∈ six) (ty : TyX K H y (.type t)) : RhsT K C H y := ⟨_, ty, notFirst_of (I.no t m)⟩
/-- keyword defaults, one by one -/
theorem kwmem1 {K : PySem.W.Frag} {D : Addr} {q : Str × V} {l : List (Str × V)} (h : ∃ u, PySem.W.nsIn K D q.1 = some (some u) ∧ RelV q.2 u) (t : ∀ q ∈ l, ∃ u, PySem.W.nsIn K D q.1 = some (some u) ∧ RelV q.2 u) : ∀ p ∈ q :: l, ∃ u, PySem.W.nsIn K D p.1 = some (some u) ∧ RelV p.2 u := fun p m => by
  rcases List.mem_cons.mp m with e | m
  · rw [e]; exact h
  · exact t p m
theorem kwmem0 {K : PySem.W.Frag} {D : Addr} : ∀ q ∈ ([] : List (Str × V)), ∃ u, PySem.W.nsIn K D q.1 = some (some u) ∧ RelV q.2 u := fun _ m => nomatch m

/-! ### the text by places, what the top has written -/
/-- a table of the text: the first entry of a word -/
def findT {α : Type} (l : List (Str × α)) (z : Str) : Option α := (l.find? fun p => decide (p.1 = z)).map (·.2)
def RelOpt {α : Type} (R : α → Value → Prop) : Option α → Option Value → Prop
  | some x, some u => R x u
  | none, none => True
  | _, _ => False
def RelTu (K : PySem.W.Frag) (xs : List V) (u : Value) : Prop := ∃ t, u = .ref t ∧ ∀ H : Hp, SqT K H t xs
theorem find_rel {α : Type} {R : α → Value → Prop} : ∀ {l : List (Str × α)} {m : List (Str × Value)}, Paired (fun (p : Str × α) (q : Str × Value) => p.1 = q.1 ∧ R p.2 q.2) l m → ∀ z, RelOpt R (findT l z) (findT m z)
  | _, _, .nil, _ => trivial
  | p :: l, q :: m, .cons r t, z => by
    unfold findT
    rw [List.find?_cons, List.find?_cons, ← r.1]
    cases decide (p.1 = z) with
    | true => exact r.2
    | false => exact find_rel t z
theorem nsIn_of {K : PySem.W.Frag} {c : Addr} {ty : Value} {dd : Option Addr} {es : Array DictEntry} {n : Nat} {sl : Array (Option Value)} (h : K.lookup c = some ⟨ty, dd, .dict es n, sl⟩) {L : List (Str × Value)}
    (e : Paired (fun (d : DictEntry) (p : Str × Value) => (∃ t, d.key = .str p.1 t) ∧ d.val = p.2) es.toList L) (z : Str) : PySem.W.nsIn K c z = some (findT L z) := by
  unfold PySem.W.nsIn
  rw [h]
  dsimp only
  have k : ∀ (l : List DictEntry) (L : List (Str × Value)), Paired (fun (d : DictEntry) (p : Str × Value) => (∃ t, d.key = .str p.1 t) ∧ d.val = p.2) l L → (l.find? (·.key.isStr z)).map (·.val) = findT L z ∧ l.any (·.refKey) = false := by
    intro l L e
    induction e with
    | nil => exact ⟨rfl, rfl⟩
    | @cons d p l L r _ ih =>
      obtain ⟨⟨t, hk⟩, hv⟩ := r
      have e1 : d.key.isStr z = decide (p.1 = z) := by
        rw [hk]
        show (p.1 == z) = decide (p.1 = z)
        rw [Bool.eq_iff_iff]
        simp
      have e2 : d.refKey = false := by
        unfold DictEntry.refKey
        rw [hk]
      refine ⟨?_, by rw [List.any_cons, e2, ih.2]; rfl⟩
      unfold findT at ih ⊢
      rw [List.find?_cons, List.find?_cons, e1]
      cases decide (p.1 = z) with
      | true => exact congrArg some hv
      | false => exact ih.1
  obtain ⟨k1, k2⟩ := k _ _ e
  cases q : es.toList.find? (·.key.isStr z) with
  | some d =>
    rw [q] at k1
    rw [← k1]
    rfl
  | none =>
    rw [q] at k1
    rw [← k1]
    simp [k2]
/-- one of a list, as a list -/
def pick {α : Type} (l : List α) (i : Nat) : List α := (l.drop i).take 1
theorem pickR {vs : List V} {us : List Value} (h : Vals vs us) (i : Nat) : Vals (pick vs i) (pick us i) := (h.drop i).take 1
theorem memC {α : Type} {P : α → Prop} {x : α} {l : List α} (h : P x) (t : ∀ y ∈ l, P y) : ∀ y ∈ x :: l, P y := fun y m => by
  rcases List.mem_cons.mp m with e | m
  · rw [e]
    exact h
  · exact t y m
theorem memE {α : Type} {P : α → Prop} : ∀ y ∈ ([] : List α), P y := fun _ m => nomatch m
def top (i : Nat) : Stmt := PySem.Challenge.pw_leastimage_k05_pieces_refused.main.body.getD i (.Pass ⟨0, 0, 0, 0⟩)
abbrev s_wall : Stmt := top 0
abbrev N_wall : List Str := ["k"]
theorem sc_wall : FnScope N_wall ["k"] (defScope s_wall) := ⟨rfl, rfl, rfl, by decide +kernel, rfl, by decide +kernel, by decide +kernel⟩
abbrev s_is_name : Stmt := top 14
abbrev N_is_name : List Str := ["value", "letter"]
theorem sc_is_name : FnScope N_is_name ["value"] (defScope s_is_name) := ⟨rfl, rfl, rfl, by decide +kernel, rfl, by decide +kernel, by decide +kernel⟩
abbrev s_is_register : Stmt := top 15
abbrev N_is_register : List Str := ["value"]
theorem sc_is_register : FnScope N_is_register ["value"] (defScope s_is_register) := ⟨rfl, rfl, rfl, by decide +kernel, rfl, by decide +kernel, by decide +kernel⟩
abbrev s_is_number : Stmt := top 16
abbrev N_is_number : List Str := ["value", "least", "most"]
theorem sc_is_number : FnScope N_is_number ["value", "least", "most"] (defScope s_is_number) := ⟨rfl, rfl, rfl, by decide +kernel, rfl, by decide +kernel, by decide +kernel⟩
abbrev s_is_code_row : Stmt := top 22
abbrev N_is_code_row : List Str := ["value", "word"]
theorem sc_is_code_row : FnScope N_is_code_row ["value"] (defScope s_is_code_row) := ⟨rfl, rfl, rfl, by decide +kernel, rfl, by decide +kernel, by decide +kernel⟩
abbrev s_is_data_row : Stmt := top 23
abbrev N_is_data_row : List Str := ["value", "word"]
theorem sc_is_data_row : FnScope N_is_data_row ["value"] (defScope s_is_data_row) := ⟨rfl, rfl, rfl, by decide +kernel, rfl, by decide +kernel, by decide +kernel⟩
abbrev s_is_row_of : Stmt := top 24
abbrev N_is_row_of : List Str := ["part", "value"]
theorem sc_is_row_of : FnScope N_is_row_of ["part", "value"] (defScope s_is_row_of) := ⟨rfl, rfl, rfl, by decide +kernel, rfl, by decide +kernel, by decide +kernel⟩
abbrev s_is_closing : Stmt := top 25
abbrev N_is_closing : List Str := ["row"]
theorem sc_is_closing : FnScope N_is_closing ["row"] (defScope s_is_closing) := ⟨rfl, rfl, rfl, by decide +kernel, rfl, by decide +kernel, by decide +kernel⟩
abbrev s_word_of : Stmt := top 26
abbrev N_word_of : List Str := ["value"]
theorem sc_word_of : FnScope N_word_of ["value"] (defScope s_word_of) := ⟨rfl, rfl, rfl, by decide +kernel, rfl, by decide +kernel, by decide +kernel⟩
abbrev s_fit : Stmt := top 27
abbrev N_fit : List Str := ["items", "kinds", "item", "kind"]
theorem sc_fit : FnScope N_fit ["items", "kinds"] (defScope s_fit) := ⟨rfl, rfl, rfl, by decide +kernel, rfl, by decide +kernel, by decide +kernel⟩
abbrev s_fits : Stmt := top 28
abbrev N_fits : List Str := ["item", "kind", "least", "most"]
theorem sc_fits : FnScope N_fits ["item", "kind"] (defScope s_fits) := ⟨rfl, rfl, rfl, by decide +kernel, rfl, by decide +kernel, by decide +kernel⟩
abbrev s_Piece___init__ : Stmt := inClass (top 34) 0
abbrev N_Piece___init__ : List Str := ["self", "name", "part", "rows", "alignment", "scope", "keep"]
theorem sc_Piece___init__ : FnScope N_Piece___init__ ["self", "name", "part", "rows", "alignment", "scope", "keep"] (defScope s_Piece___init__) := ⟨rfl, rfl, rfl, by decide +kernel, rfl, by decide +kernel, by decide +kernel⟩
abbrev s_Piece_rows : Stmt := inClass (top 34) 1
abbrev N_Piece_rows : List Str := ["self"]
theorem sc_Piece_rows : FnScope N_Piece_rows ["self"] (defScope s_Piece_rows) := ⟨rfl, rfl, rfl, by decide +kernel, rfl, by decide +kernel, by decide +kernel⟩
abbrev s_Piece_is_shared : Stmt := inClass (top 34) 2
abbrev N_Piece_is_shared : List Str := ["self"]
theorem sc_Piece_is_shared : FnScope N_Piece_is_shared ["self"] (defScope s_Piece_is_shared) := ⟨rfl, rfl, rfl, by decide +kernel, rfl, by decide +kernel, by decide +kernel⟩
abbrev s_Piece_is_strong : Stmt := inClass (top 34) 3
abbrev N_Piece_is_strong : List Str := ["self"]
theorem sc_Piece_is_strong : FnScope N_Piece_is_strong ["self"] (defScope s_Piece_is_strong) := ⟨rfl, rfl, rfl, by decide +kernel, rfl, by decide +kernel, by decide +kernel⟩
abbrev s_Piece___eq__ : Stmt := inClass (top 34) 4
abbrev N_Piece___eq__ : List Str := ["self", "other"]
theorem sc_Piece___eq__ : FnScope N_Piece___eq__ ["self", "other"] (defScope s_Piece___eq__) := ⟨rfl, rfl, rfl, by decide +kernel, rfl, by decide +kernel, by decide +kernel⟩
abbrev s_Piece___len__ : Stmt := inClass (top 34) 5
abbrev N_Piece___len__ : List Str := ["self"]
theorem sc_Piece___len__ : FnScope N_Piece___len__ ["self"] (defScope s_Piece___len__) := ⟨rfl, rfl, rfl, by decide +kernel, rfl, by decide +kernel, by decide +kernel⟩
abbrev s_Piece___bool__ : Stmt := inClass (top 34) 6
abbrev N_Piece___bool__ : List Str := ["self"]
theorem sc_Piece___bool__ : FnScope N_Piece___bool__ ["self"] (defScope s_Piece___bool__) := ⟨rfl, rfl, rfl, by decide +kernel, rfl, by decide +kernel, by decide +kernel⟩
abbrev s_Piece___repr__ : Stmt := inClass (top 34) 7
abbrev N_Piece___repr__ : List Str := ["self"]
theorem sc_Piece___repr__ : FnScope N_Piece___repr__ ["self"] (defScope s_Piece___repr__) := ⟨rfl, rfl, rfl, by decide +kernel, rfl, by decide +kernel, by decide +kernel⟩
abbrev s_is_part : Stmt := top 35
abbrev N_is_part : List Str := ["value"]
theorem sc_is_part : FnScope N_is_part ["value"] (defScope s_is_part) := ⟨rfl, rfl, rfl, by decide +kernel, rfl, by decide +kernel, by decide +kernel⟩
abbrev s_is_alignment : Stmt := top 36
abbrev N_is_alignment : List Str := ["value"]
theorem sc_is_alignment : FnScope N_is_alignment ["value"] (defScope s_is_alignment) := ⟨rfl, rfl, rfl, by decide +kernel, rfl, by decide +kernel, by decide +kernel⟩
abbrev s_is_scope_of : Stmt := top 37
abbrev N_is_scope_of : List Str := ["part", "value"]
theorem sc_is_scope_of : FnScope N_is_scope_of ["part", "value"] (defScope s_is_scope_of) := ⟨rfl, rfl, rfl, by decide +kernel, rfl, by decide +kernel, by decide +kernel⟩
abbrev s_ends_closing : Stmt := top 38
abbrev N_ends_closing : List Str := ["part", "rows"]
theorem sc_ends_closing : FnScope N_ends_closing ["part", "rows"] (defScope s_ends_closing) := ⟨rfl, rfl, rfl, by decide +kernel, rfl, by decide +kernel, by decide +kernel⟩
abbrev s_check_rows : Stmt := top 39
abbrev N_check_rows : List Str := ["part", "rows", "at", "row"]
theorem sc_check_rows : FnScope N_check_rows ["part", "rows"] (defScope s_check_rows) := ⟨rfl, rfl, rfl, by decide +kernel, rfl, by decide +kernel, by decide +kernel⟩
abbrev s_law_bag : Stmt := top 41
abbrev N_law_bag : List Str := ["_law_script", "_law_mixed", "_law_piled"]
theorem sc_law_bag : FnScope N_law_bag ["_law_script"] (defScope s_law_bag) := ⟨rfl, rfl, rfl, by decide +kernel, rfl, by decide +kernel, by decide +kernel⟩
abbrev s_law_draw : Stmt := top 42
abbrev N_law_draw : List Str := ["_law_bag_here", "_law_sides", "_law_piled", "_law_digit", "_law_seed"]
theorem sc_law_draw : FnScope N_law_draw ["_law_bag_here", "_law_sides"] (defScope s_law_draw) := ⟨rfl, rfl, rfl, by decide +kernel, rfl, by decide +kernel, by decide +kernel⟩
abbrev s_law_of : Stmt := top 43
abbrev N_law_of : List Str := ["_law_bag_here", "_law_things"]
theorem sc_law_of : FnScope N_law_of ["_law_bag_here", "_law_things"] (defScope s_law_of) := ⟨rfl, rfl, rfl, by decide +kernel, rfl, by decide +kernel, by decide +kernel⟩
abbrev s_law_same : Stmt := top 44
abbrev N_law_same : List Str := ["_law_found", "_law_due_here", "_law_a", "_law_b"]
theorem sc_law_same : FnScope N_law_same ["_law_found", "_law_due_here"] (defScope s_law_same) := ⟨rfl, rfl, rfl, by decide +kernel, rfl, by decide +kernel, by decide +kernel⟩
abbrev s_law_field : Stmt := top 45
abbrev N_law_field : List Str := ["_law_e"]
theorem sc_law_field : FnScope N_law_field ["_law_e"] (defScope s_law_field) := ⟨rfl, rfl, rfl, by decide +kernel, rfl, by decide +kernel, by decide +kernel⟩
abbrev s_law_try : Stmt := top 46
abbrev N_law_try : List Str := ["_law_ask", "_law_e"]
theorem sc_law_try : FnScope N_law_try ["_law_ask"] (defScope s_law_try) := ⟨rfl, rfl, rfl, by decide +kernel, rfl, by decide +kernel, by decide +kernel⟩
abbrev s_law_why : Stmt := top 47
abbrev N_law_why : List Str := ["_law_ask", "_law_found"]
theorem sc_law_why : FnScope N_law_why ["_law_ask"] (defScope s_law_why) := ⟨rfl, rfl, rfl, by decide +kernel, rfl, by decide +kernel, by decide +kernel⟩
abbrev s_law_whys : Stmt := top 48
abbrev N_law_whys : List Str := ["_law_asks", "_law_ask"]
theorem sc_law_whys : FnScope N_law_whys ["_law_asks"] (defScope s_law_whys) := ⟨rfl, rfl, rfl, by decide +kernel, rfl, by decide +kernel, by decide +kernel⟩
abbrev s_law_odd : Stmt := top 49
abbrev N_law_odd : List Str := ["_law_bag_here", "_law_more"]
theorem sc_law_odd : FnScope N_law_odd ["_law_bag_here", "_law_more"] (defScope s_law_odd) := ⟨rfl, rfl, rfl, by decide +kernel, rfl, by decide +kernel, by decide +kernel⟩
abbrev s_law_titles : Stmt := top 50
abbrev N_law_titles : List Str := ["_law_bag_here", "_law_many", "_law_left", "_law_found", "_law_stem", "_law_k", "_law_spot"]
theorem sc_law_titles : FnScope N_law_titles ["_law_bag_here", "_law_many"] (defScope s_law_titles) := ⟨rfl, rfl, rfl, by decide +kernel, rfl, by decide +kernel, by decide +kernel⟩
abbrev s_law_number : Stmt := top 51
abbrev N_law_number : List Str := ["_law_bag_here"]
theorem sc_law_number : FnScope N_law_number ["_law_bag_here"] (defScope s_law_number) := ⟨rfl, rfl, rfl, by decide +kernel, rfl, by decide +kernel, by decide +kernel⟩
abbrev s_law_r : Stmt := top 52
abbrev N_law_r : List Str := ["_law_bag_here"]
theorem sc_law_r : FnScope N_law_r ["_law_bag_here"] (defScope s_law_r) := ⟨rfl, rfl, rfl, by decide +kernel, rfl, by decide +kernel, by decide +kernel⟩
abbrev s_law_code_row : Stmt := top 53
abbrev N_law_code_row : List Str := ["_law_bag_here", "_law_titles_here", "_law_way"]
theorem sc_law_code_row : FnScope N_law_code_row ["_law_bag_here", "_law_titles_here"] (defScope s_law_code_row) := ⟨rfl, rfl, rfl, by decide +kernel, rfl, by decide +kernel, by decide +kernel⟩
abbrev s_law_last_row : Stmt := top 54
abbrev N_law_last_row : List Str := ["_law_bag_here", "_law_titles_here"]
theorem sc_law_last_row : FnScope N_law_last_row ["_law_bag_here", "_law_titles_here"] (defScope s_law_last_row) := ⟨rfl, rfl, rfl, by decide +kernel, rfl, by decide +kernel, by decide +kernel⟩
abbrev s_law_data_row : Stmt := top 55
abbrev N_law_data_row : List Str := ["_law_bag_here", "_law_titles_here", "_law_way"]
theorem sc_law_data_row : FnScope N_law_data_row ["_law_bag_here", "_law_titles_here"] (defScope s_law_data_row) := ⟨rfl, rfl, rfl, by decide +kernel, rfl, by decide +kernel, by decide +kernel⟩
abbrev s_law_piece_model : Stmt := top 56
abbrev N_law_piece_model : List Str := ["_law_bag_here", "_law_title", "_law_titles_here", "_law_most", "_law_side", "_law_scopes", "_law_lot", "_law_k"]
theorem sc_law_piece_model : FnScope N_law_piece_model ["_law_bag_here", "_law_title", "_law_titles_here", "_law_most"] (defScope s_law_piece_model) := ⟨rfl, rfl, rfl, by decide +kernel, rfl, by decide +kernel, by decide +kernel⟩
abbrev s_law_is_title : Stmt := top 57
abbrev N_law_is_title : List Str := ["_law_thing", "_law_sign"]
theorem sc_law_is_title : FnScope N_law_is_title ["_law_thing"] (defScope s_law_is_title) := ⟨rfl, rfl, rfl, by decide +kernel, rfl, by decide +kernel, by decide +kernel⟩
abbrev s_law_within : Stmt := top 58
abbrev N_law_within : List Str := ["_law_thing", "_law_low_y", "_law_high_y"]
theorem sc_law_within : FnScope N_law_within ["_law_thing", "_law_low_y", "_law_high_y"] (defScope s_law_within) := ⟨rfl, rfl, rfl, by decide +kernel, rfl, by decide +kernel, by decide +kernel⟩
abbrev s_law_code_so : Stmt := top 59
abbrev N_law_code_so : List Str := ["_law_thing", "_law_own", "_law_rest"]
theorem sc_law_code_so : FnScope N_law_code_so ["_law_thing"] (defScope s_law_code_so) := ⟨rfl, rfl, rfl, by decide +kernel, rfl, by decide +kernel, by decide +kernel⟩
abbrev s_law_data_so : Stmt := top 60
abbrev N_law_data_so : List Str := ["_law_thing"]
theorem sc_law_data_so : FnScope N_law_data_so ["_law_thing"] (defScope s_law_data_so) := ⟨rfl, rfl, rfl, by decide +kernel, rfl, by decide +kernel, by decide +kernel⟩
abbrev s_law_wrong_rows : Stmt := top 61
abbrev N_law_wrong_rows : List Str := ["_law_bag_here", "_law_model", "_law_side", "_law_lot", "_law_way", "_law_spot", "_law_strange"]
theorem sc_law_wrong_rows : FnScope N_law_wrong_rows ["_law_bag_here", "_law_model"] (defScope s_law_wrong_rows) := ⟨rfl, rfl, rfl, by decide +kernel, rfl, by decide +kernel, by decide +kernel⟩
abbrev s_law_due : Stmt := top 62
abbrev N_law_due : List Str := ["_law_given", "_law_title", "_law_side", "_law_lot", "_law_step", "_law_way", "_law_k"]
theorem sc_law_due : FnScope N_law_due ["_law_given"] (defScope s_law_due) := ⟨rfl, rfl, rfl, by decide +kernel, rfl, by decide +kernel, by decide +kernel⟩
abbrev s_law_written_so : Stmt := top 63
abbrev N_law_written_so : List Str := ["_law_rooms", "_law_end", "_law_asks", "_law_due_here"]
theorem sc_law_written_so : FnScope N_law_written_so [] (defScope s_law_written_so) := ⟨rfl, rfl, rfl, by decide +kernel, rfl, by decide +kernel, by decide +kernel⟩
abbrev s_law : Stmt := top 64
abbrev N_law : List Str := ["_law_script", "_law_bag_here", "_law_titles_here", "_law_turn", "_law_model", "_law_steps", "_law_ways", "_law_given", "_law_asks", "_law_due_here"]
theorem sc_law : FnScope N_law ["_law_script"] (defScope s_law) := ⟨rfl, rfl, rfl, by decide +kernel, rfl, by decide +kernel, by decide +kernel⟩
structure Fs where
  (a_wall : Addr) (d_wall : FuncData)
  (a_is_name : Addr) (d_is_name : FuncData)
  (a_is_register : Addr) (d_is_register : FuncData)
  (a_is_number : Addr) (d_is_number : FuncData)
  (a_is_code_row : Addr) (d_is_code_row : FuncData)
  (a_is_data_row : Addr) (d_is_data_row : FuncData)
  (a_is_row_of : Addr) (d_is_row_of : FuncData)
  (a_is_closing : Addr) (d_is_closing : FuncData)
  (a_word_of : Addr) (d_word_of : FuncData)
  (a_fit : Addr) (d_fit : FuncData)
  (a_fits : Addr) (d_fits : FuncData)
  (a_Piece___init__ : Addr) (d_Piece___init__ : FuncData)
  (a_Piece_rows : Addr) (d_Piece_rows : FuncData)
  (a_Piece_is_shared : Addr) (d_Piece_is_shared : FuncData)
  (a_Piece_is_strong : Addr) (d_Piece_is_strong : FuncData)
  (a_Piece___eq__ : Addr) (d_Piece___eq__ : FuncData)
  (a_Piece___len__ : Addr) (d_Piece___len__ : FuncData)
  (a_Piece___bool__ : Addr) (d_Piece___bool__ : FuncData)
  (a_Piece___repr__ : Addr) (d_Piece___repr__ : FuncData)
  (a_is_part : Addr) (d_is_part : FuncData)
  (a_is_alignment : Addr) (d_is_alignment : FuncData)
  (a_is_scope_of : Addr) (d_is_scope_of : FuncData)
  (a_ends_closing : Addr) (d_ends_closing : FuncData)
  (a_check_rows : Addr) (d_check_rows : FuncData)
  (a_law_bag : Addr) (d_law_bag : FuncData)
  (a_law_draw : Addr) (d_law_draw : FuncData)
  (a_law_of : Addr) (d_law_of : FuncData)
  (a_law_same : Addr) (d_law_same : FuncData)
  (a_law_field : Addr) (d_law_field : FuncData)
  (a_law_try : Addr) (d_law_try : FuncData)
  (a_law_why : Addr) (d_law_why : FuncData)
  (a_law_whys : Addr) (d_law_whys : FuncData)
  (a_law_odd : Addr) (d_law_odd : FuncData)
  (a_law_titles : Addr) (d_law_titles : FuncData)
  (a_law_number : Addr) (d_law_number : FuncData)
  (a_law_r : Addr) (d_law_r : FuncData)
  (a_law_code_row : Addr) (d_law_code_row : FuncData)
  (a_law_last_row : Addr) (d_law_last_row : FuncData)
  (a_law_data_row : Addr) (d_law_data_row : FuncData)
  (a_law_piece_model : Addr) (d_law_piece_model : FuncData)
  (a_law_is_title : Addr) (d_law_is_title : FuncData)
  (a_law_within : Addr) (d_law_within : FuncData)
  (a_law_code_so : Addr) (d_law_code_so : FuncData)
  (a_law_data_so : Addr) (d_law_data_so : FuncData)
  (a_law_wrong_rows : Addr) (d_law_wrong_rows : FuncData)
  (a_law_due : Addr) (d_law_due : FuncData)
  (a_law_written_so : Addr) (d_law_written_so : FuncData)
  (a_law : Addr) (d_law : FuncData)
  (e_CODE_ROWS : Array DictEntry) (z_CODE_ROWS : Nat)
  (e_DATA_ROWS : Array DictEntry) (z_DATA_ROWS : Nat)
  (e_BOUNDS : Array DictEntry) (z_BOUNDS : Nat)
  (C_Piece : Addr)
  (c_REGISTERS : Addr)
  (c_CODE_ROWS : Addr)
  (c_DATA_ROWS : Addr)
  (c_BOUNDS : Addr)
  (c_CLOSING : Addr)
  (c_PARTS : Addr)
  (c_ALIGNMENTS : Addr)
  (c_SCOPES : Addr)
def tb_CODE_ROWS : List (Str × List V) := [("put", [.str "R", .str "n"]), ("name", [.str "R", .str "N"]), ("add", [.str "R", .str "R"]), ("take", [.str "R", .str "R"]), ("load", [.str "R", .str "R", .str "d"]), ("store", [.str "R", .str "R", .str "d"]), ("jump", [.str "N"]), ("ifzero", [.str "R", .str "N"]), ("call", [.str "N"]), ("callby", [.str "R"]), ("back", []), ("out", [.str "R"]), ("halt", []), ("room", [.str "k"])]
def tb_DATA_ROWS : List (Str × List V) := [("word", [.str "n"]), ("address", [.str "N"]), ("room", [.str "k"])]
def tb_BOUNDS : List (Str × List V) := [("n", [.int 0, .int 65535]), ("d", [.int 0, .int 15]), ("k", [.int 1, .int 120])]
structure Txt (K : PySem.W.Frag) (w : World) (mg : Str → Option Value) (Z : Fs) : Prop where
  F_wall : Fun K "_wall" "_wall" s_wall Z.a_wall Z.d_wall
  m_wall : mg "_wall" = some (.ref Z.a_wall)
  b_wall : Binds K Z.d_wall ["k"] []
  F_is_name : Fun K "is_name" "is_name" s_is_name Z.a_is_name Z.d_is_name
  m_is_name : mg "is_name" = some (.ref Z.a_is_name)
  b_is_name : Binds K Z.d_is_name ["value"] []
  F_is_register : Fun K "is_register" "is_register" s_is_register Z.a_is_register Z.d_is_register
  m_is_register : mg "is_register" = some (.ref Z.a_is_register)
  b_is_register : Binds K Z.d_is_register ["value"] []
  F_is_number : Fun K "is_number" "is_number" s_is_number Z.a_is_number Z.d_is_number
  m_is_number : mg "is_number" = some (.ref Z.a_is_number)
  b_is_number : Binds K Z.d_is_number ["value", "least", "most"] []
  F_is_code_row : Fun K "is_code_row" "is_code_row" s_is_code_row Z.a_is_code_row Z.d_is_code_row
  m_is_code_row : mg "is_code_row" = some (.ref Z.a_is_code_row)
  b_is_code_row : Binds K Z.d_is_code_row ["value"] []
  F_is_data_row : Fun K "is_data_row" "is_data_row" s_is_data_row Z.a_is_data_row Z.d_is_data_row
  m_is_data_row : mg "is_data_row" = some (.ref Z.a_is_data_row)
  b_is_data_row : Binds K Z.d_is_data_row ["value"] []
  F_is_row_of : Fun K "is_row_of" "is_row_of" s_is_row_of Z.a_is_row_of Z.d_is_row_of
  m_is_row_of : mg "is_row_of" = some (.ref Z.a_is_row_of)
  b_is_row_of : Binds K Z.d_is_row_of ["part", "value"] []
  F_is_closing : Fun K "is_closing" "is_closing" s_is_closing Z.a_is_closing Z.d_is_closing
  m_is_closing : mg "is_closing" = some (.ref Z.a_is_closing)
  b_is_closing : Binds K Z.d_is_closing ["row"] []
  F_word_of : Fun K "_word_of" "_word_of" s_word_of Z.a_word_of Z.d_word_of
  m_word_of : mg "_word_of" = some (.ref Z.a_word_of)
  b_word_of : Binds K Z.d_word_of ["value"] []
  F_fit : Fun K "_fit" "_fit" s_fit Z.a_fit Z.d_fit
  m_fit : mg "_fit" = some (.ref Z.a_fit)
  b_fit : Binds K Z.d_fit ["items", "kinds"] []
  F_fits : Fun K "_fits" "_fits" s_fits Z.a_fits Z.d_fits
  m_fits : mg "_fits" = some (.ref Z.a_fits)
  b_fits : Binds K Z.d_fits ["item", "kind"] []
  F_Piece___init__ : FunD K "__init__" "Piece.__init__" (defArgs s_Piece___init__) (defBody s_Piece___init__) (defScope s_Piece___init__) [] [("alignment", .int 1), ("scope", .str "local"), ("keep", .bl false)] Z.a_Piece___init__ Z.d_Piece___init__
  d_Piece___init___4 : ∃ ds, Vals ([("alignment", .int 1), ("scope", .str "local"), ("keep", .bl false)].map (·.2)) ds ∧ Binds K Z.d_Piece___init__ ["self", "name", "part", "rows", "alignment", "scope", "keep"] ds
  d_Piece___init___4_scope : ∃ g, KBn K Z.d_Piece___init__ ["self", "name", "part", "rows", "alignment", "scope", "keep"] 4 ["scope"] g (fun us ws => pick us 0 ++ pick us 1 ++ pick us 2 ++ pick us 3 ++ [.int 1] ++ pick ws 0 ++ [.bl false])
  d_Piece___init___4_alignment_scope : ∃ g, KBn K Z.d_Piece___init__ ["self", "name", "part", "rows", "alignment", "scope", "keep"] 4 ["alignment", "scope"] g (fun us ws => pick us 0 ++ pick us 1 ++ pick us 2 ++ pick us 3 ++ pick ws 0 ++ pick ws 1 ++ [.bl false])
  d_Piece___init___4_alignment : ∃ g, KBn K Z.d_Piece___init__ ["self", "name", "part", "rows", "alignment", "scope", "keep"] 4 ["alignment"] g (fun us ws => pick us 0 ++ pick us 1 ++ pick us 2 ++ pick us 3 ++ pick ws 0 ++ [.str "local"] ++ [.bl false])
  d_Piece___init___4_alignment_scope_keep : ∃ g, KBn K Z.d_Piece___init__ ["self", "name", "part", "rows", "alignment", "scope", "keep"] 4 ["alignment", "scope", "keep"] g (fun us ws => [(us ++ ws).getD 0 .non, (us ++ ws).getD 1 .non, (us ++ ws).getD 2 .non, (us ++ ws).getD 3 .non, (us ++ ws).getD 4 .non, (us ++ ws).getD 5 .non, (us ++ ws).getD 6 .non])
  d_Piece___init___1_scope_rows_name_alignment_part : ∃ g, KBn K Z.d_Piece___init__ ["self", "name", "part", "rows", "alignment", "scope", "keep"] 1 ["scope", "rows", "name", "alignment", "part"] g (fun us ws => pick us 0 ++ pick ws 2 ++ pick ws 4 ++ pick ws 1 ++ pick ws 3 ++ pick ws 0 ++ [.bl false])
  M_Piece_rows : Meth K Z.C_Piece "rows" Z.a_Piece_rows
  F_Piece_rows : Fun K "rows" "Piece.rows" s_Piece_rows Z.a_Piece_rows Z.d_Piece_rows
  b_Piece_rows : Binds K Z.d_Piece_rows ["self"] []
  M_Piece_is_shared : Meth K Z.C_Piece "is_shared" Z.a_Piece_is_shared
  F_Piece_is_shared : Fun K "is_shared" "Piece.is_shared" s_Piece_is_shared Z.a_Piece_is_shared Z.d_Piece_is_shared
  b_Piece_is_shared : Binds K Z.d_Piece_is_shared ["self"] []
  M_Piece_is_strong : Meth K Z.C_Piece "is_strong" Z.a_Piece_is_strong
  F_Piece_is_strong : Fun K "is_strong" "Piece.is_strong" s_Piece_is_strong Z.a_Piece_is_strong Z.d_Piece_is_strong
  b_Piece_is_strong : Binds K Z.d_Piece_is_strong ["self"] []
  S_Piece___eq__ : PySem.W.findIn K (.ref Z.C_Piece) "__eq__" = some (some (.ref Z.a_Piece___eq__)) ∧ PySem.W.isFn K (.ref Z.a_Piece___eq__) = true
  F_Piece___eq__ : Fun K "__eq__" "Piece.__eq__" s_Piece___eq__ Z.a_Piece___eq__ Z.d_Piece___eq__
  b_Piece___eq__ : Binds K Z.d_Piece___eq__ ["self", "other"] []
  S_Piece___len__ : PySem.W.findIn K (.ref Z.C_Piece) "__len__" = some (some (.ref Z.a_Piece___len__)) ∧ PySem.W.isFn K (.ref Z.a_Piece___len__) = true
  F_Piece___len__ : Fun K "__len__" "Piece.__len__" s_Piece___len__ Z.a_Piece___len__ Z.d_Piece___len__
  b_Piece___len__ : Binds K Z.d_Piece___len__ ["self"] []
  S_Piece___bool__ : PySem.W.findIn K (.ref Z.C_Piece) "__bool__" = some (some (.ref Z.a_Piece___bool__)) ∧ PySem.W.isFn K (.ref Z.a_Piece___bool__) = true
  F_Piece___bool__ : Fun K "__bool__" "Piece.__bool__" s_Piece___bool__ Z.a_Piece___bool__ Z.d_Piece___bool__
  b_Piece___bool__ : Binds K Z.d_Piece___bool__ ["self"] []
  S_Piece___repr__ : PySem.W.findIn K (.ref Z.C_Piece) "__repr__" = some (some (.ref Z.a_Piece___repr__)) ∧ PySem.W.isFn K (.ref Z.a_Piece___repr__) = true
  F_Piece___repr__ : Fun K "__repr__" "Piece.__repr__" s_Piece___repr__ Z.a_Piece___repr__ Z.d_Piece___repr__
  b_Piece___repr__ : Binds K Z.d_Piece___repr__ ["self"] []
  F_is_part : Fun K "is_part" "is_part" s_is_part Z.a_is_part Z.d_is_part
  m_is_part : mg "is_part" = some (.ref Z.a_is_part)
  b_is_part : Binds K Z.d_is_part ["value"] []
  F_is_alignment : Fun K "is_alignment" "is_alignment" s_is_alignment Z.a_is_alignment Z.d_is_alignment
  m_is_alignment : mg "is_alignment" = some (.ref Z.a_is_alignment)
  b_is_alignment : Binds K Z.d_is_alignment ["value"] []
  F_is_scope_of : Fun K "is_scope_of" "is_scope_of" s_is_scope_of Z.a_is_scope_of Z.d_is_scope_of
  m_is_scope_of : mg "is_scope_of" = some (.ref Z.a_is_scope_of)
  b_is_scope_of : Binds K Z.d_is_scope_of ["part", "value"] []
  F_ends_closing : Fun K "ends_closing" "ends_closing" s_ends_closing Z.a_ends_closing Z.d_ends_closing
  m_ends_closing : mg "ends_closing" = some (.ref Z.a_ends_closing)
  b_ends_closing : Binds K Z.d_ends_closing ["part", "rows"] []
  F_check_rows : Fun K "_check_rows" "_check_rows" s_check_rows Z.a_check_rows Z.d_check_rows
  m_check_rows : mg "_check_rows" = some (.ref Z.a_check_rows)
  b_check_rows : Binds K Z.d_check_rows ["part", "rows"] []
  F_law_bag : Fun K "_law_bag" "_law_bag" s_law_bag Z.a_law_bag Z.d_law_bag
  m_law_bag : mg "_law_bag" = some (.ref Z.a_law_bag)
  b_law_bag : Binds K Z.d_law_bag ["_law_script"] []
  F_law_draw : Fun K "_law_draw" "_law_draw" s_law_draw Z.a_law_draw Z.d_law_draw
  m_law_draw : mg "_law_draw" = some (.ref Z.a_law_draw)
  b_law_draw : Binds K Z.d_law_draw ["_law_bag_here", "_law_sides"] []
  F_law_of : Fun K "_law_of" "_law_of" s_law_of Z.a_law_of Z.d_law_of
  m_law_of : mg "_law_of" = some (.ref Z.a_law_of)
  b_law_of : Binds K Z.d_law_of ["_law_bag_here", "_law_things"] []
  F_law_same : Fun K "_law_same" "_law_same" s_law_same Z.a_law_same Z.d_law_same
  m_law_same : mg "_law_same" = some (.ref Z.a_law_same)
  b_law_same : Binds K Z.d_law_same ["_law_found", "_law_due_here"] []
  F_law_field : Fun K "_law_field" "_law_field" s_law_field Z.a_law_field Z.d_law_field
  m_law_field : mg "_law_field" = some (.ref Z.a_law_field)
  b_law_field : Binds K Z.d_law_field ["_law_e"] []
  F_law_try : Fun K "_law_try" "_law_try" s_law_try Z.a_law_try Z.d_law_try
  m_law_try : mg "_law_try" = some (.ref Z.a_law_try)
  b_law_try : Binds K Z.d_law_try ["_law_ask"] []
  F_law_why : Fun K "_law_why" "_law_why" s_law_why Z.a_law_why Z.d_law_why
  m_law_why : mg "_law_why" = some (.ref Z.a_law_why)
  b_law_why : Binds K Z.d_law_why ["_law_ask"] []
  F_law_whys : Fun K "_law_whys" "_law_whys" s_law_whys Z.a_law_whys Z.d_law_whys
  m_law_whys : mg "_law_whys" = some (.ref Z.a_law_whys)
  b_law_whys : Binds K Z.d_law_whys ["_law_asks"] []
  F_law_odd : Fun K "_law_odd" "_law_odd" s_law_odd Z.a_law_odd Z.d_law_odd
  m_law_odd : mg "_law_odd" = some (.ref Z.a_law_odd)
  b_law_odd : Binds K Z.d_law_odd ["_law_bag_here", "_law_more"] []
  F_law_titles : Fun K "_law_titles" "_law_titles" s_law_titles Z.a_law_titles Z.d_law_titles
  m_law_titles : mg "_law_titles" = some (.ref Z.a_law_titles)
  b_law_titles : Binds K Z.d_law_titles ["_law_bag_here", "_law_many"] []
  F_law_number : Fun K "_law_number" "_law_number" s_law_number Z.a_law_number Z.d_law_number
  m_law_number : mg "_law_number" = some (.ref Z.a_law_number)
  b_law_number : Binds K Z.d_law_number ["_law_bag_here"] []
  F_law_r : Fun K "_law_r" "_law_r" s_law_r Z.a_law_r Z.d_law_r
  m_law_r : mg "_law_r" = some (.ref Z.a_law_r)
  b_law_r : Binds K Z.d_law_r ["_law_bag_here"] []
  F_law_code_row : Fun K "_law_code_row" "_law_code_row" s_law_code_row Z.a_law_code_row Z.d_law_code_row
  m_law_code_row : mg "_law_code_row" = some (.ref Z.a_law_code_row)
  b_law_code_row : Binds K Z.d_law_code_row ["_law_bag_here", "_law_titles_here"] []
  F_law_last_row : Fun K "_law_last_row" "_law_last_row" s_law_last_row Z.a_law_last_row Z.d_law_last_row
  m_law_last_row : mg "_law_last_row" = some (.ref Z.a_law_last_row)
  b_law_last_row : Binds K Z.d_law_last_row ["_law_bag_here", "_law_titles_here"] []
  F_law_data_row : Fun K "_law_data_row" "_law_data_row" s_law_data_row Z.a_law_data_row Z.d_law_data_row
  m_law_data_row : mg "_law_data_row" = some (.ref Z.a_law_data_row)
  b_law_data_row : Binds K Z.d_law_data_row ["_law_bag_here", "_law_titles_here"] []
  F_law_piece_model : Fun K "_law_piece_model" "_law_piece_model" s_law_piece_model Z.a_law_piece_model Z.d_law_piece_model
  m_law_piece_model : mg "_law_piece_model" = some (.ref Z.a_law_piece_model)
  b_law_piece_model : Binds K Z.d_law_piece_model ["_law_bag_here", "_law_title", "_law_titles_here", "_law_most"] []
  F_law_is_title : Fun K "_law_is_title" "_law_is_title" s_law_is_title Z.a_law_is_title Z.d_law_is_title
  m_law_is_title : mg "_law_is_title" = some (.ref Z.a_law_is_title)
  b_law_is_title : Binds K Z.d_law_is_title ["_law_thing"] []
  F_law_within : Fun K "_law_within" "_law_within" s_law_within Z.a_law_within Z.d_law_within
  m_law_within : mg "_law_within" = some (.ref Z.a_law_within)
  b_law_within : Binds K Z.d_law_within ["_law_thing", "_law_low_y", "_law_high_y"] []
  F_law_code_so : Fun K "_law_code_so" "_law_code_so" s_law_code_so Z.a_law_code_so Z.d_law_code_so
  m_law_code_so : mg "_law_code_so" = some (.ref Z.a_law_code_so)
  b_law_code_so : Binds K Z.d_law_code_so ["_law_thing"] []
  F_law_data_so : Fun K "_law_data_so" "_law_data_so" s_law_data_so Z.a_law_data_so Z.d_law_data_so
  m_law_data_so : mg "_law_data_so" = some (.ref Z.a_law_data_so)
  b_law_data_so : Binds K Z.d_law_data_so ["_law_thing"] []
  F_law_wrong_rows : Fun K "_law_wrong_rows" "_law_wrong_rows" s_law_wrong_rows Z.a_law_wrong_rows Z.d_law_wrong_rows
  m_law_wrong_rows : mg "_law_wrong_rows" = some (.ref Z.a_law_wrong_rows)
  b_law_wrong_rows : Binds K Z.d_law_wrong_rows ["_law_bag_here", "_law_model"] []
  F_law_due : Fun K "_law_due" "_law_due" s_law_due Z.a_law_due Z.d_law_due
  m_law_due : mg "_law_due" = some (.ref Z.a_law_due)
  b_law_due : Binds K Z.d_law_due ["_law_given"] []
  F_law_written_so : Fun K "_law_written_so" "_law_written_so" s_law_written_so Z.a_law_written_so Z.d_law_written_so
  m_law_written_so : mg "_law_written_so" = some (.ref Z.a_law_written_so)
  b_law_written_so : Binds K Z.d_law_written_so [] []
  F_law : Fun K "law" "law" s_law Z.a_law Z.d_law
  m_law : mg "law" = some (.ref Z.a_law)
  b_law : Binds K Z.d_law ["_law_script"] []
  cl_Piece : Cls K Z.C_Piece
  m_Piece : mg "Piece" = some (.ref Z.C_Piece)
  mk_Piece : Mk K Z.C_Piece Z.a_Piece___init__
  n_Piece_name : NoAttr K Z.C_Piece "name"
  n_Piece_part : NoAttr K Z.C_Piece "part"
  n_Piece_alignment : NoAttr K Z.C_Piece "alignment"
  n_Piece_scope : NoAttr K Z.C_Piece "scope"
  n_Piece_keep : NoAttr K Z.C_Piece "keep"
  n_Piece__rows : NoAttr K Z.C_Piece "_rows"
  i_Piece : IsK K Z.C_Piece
  n_abs : mg "abs" = none
  n_all : mg "all" = none
  n_bool : mg "bool" = none
  n_enumerate : mg "enumerate" = none
  n_int : mg "int" = none
  n_isinstance : mg "isinstance" = none
  n_len : mg "len" = none
  n_list : mg "list" = none
  n_range : mg "range" = none
  n_str : mg "str" = none
  n_tuple : mg "tuple" = none
  n_zip : mg "zip" = none
  g_MOST_LETTERS : ∃ t, mg "MOST_LETTERS" = some (.int 6 t)
  g_REGISTERS : mg "REGISTERS" = some (.ref Z.c_REGISTERS)
  v_REGISTERS : ∀ H : Hp, SqT K H Z.c_REGISTERS [.str "r0", .str "r1", .str "r2"]
  L_REGISTERS : ∃ o, K.lookup Z.c_REGISTERS = some o ∧ o.cls = .type "tuple" ∧ o.dict = none
  g_CODE_ROWS : mg "CODE_ROWS" = some (.ref Z.c_CODE_ROWS)
  g_DATA_ROWS : mg "DATA_ROWS" = some (.ref Z.c_DATA_ROWS)
  g_BOUNDS : mg "BOUNDS" = some (.ref Z.c_BOUNDS)
  g_CLOSING : mg "CLOSING" = some (.ref Z.c_CLOSING)
  v_CLOSING : ∀ H : Hp, SqT K H Z.c_CLOSING [.str "jump", .str "halt", .str "back"]
  L_CLOSING : ∃ o, K.lookup Z.c_CLOSING = some o ∧ o.cls = .type "tuple" ∧ o.dict = none
  g_PARTS : mg "PARTS" = some (.ref Z.c_PARTS)
  v_PARTS : ∀ H : Hp, SqT K H Z.c_PARTS [.str "code", .str "data"]
  L_PARTS : ∃ o, K.lookup Z.c_PARTS = some o ∧ o.cls = .type "tuple" ∧ o.dict = none
  g_ALIGNMENTS : mg "ALIGNMENTS" = some (.ref Z.c_ALIGNMENTS)
  v_ALIGNMENTS : ∀ H : Hp, SqT K H Z.c_ALIGNMENTS [.int 1, .int 2, .int 4, .int 8, .int 16]
  L_ALIGNMENTS : ∃ o, K.lookup Z.c_ALIGNMENTS = some o ∧ o.cls = .type "tuple" ∧ o.dict = none
  g_SCOPES : mg "SCOPES" = some (.ref Z.c_SCOPES)
  v_SCOPES : ∀ H : Hp, SqT K H Z.c_SCOPES [.str "local", .str "export", .str "open", .str "weak"]
  L_SCOPES : ∃ o, K.lookup Z.c_SCOPES = some o ∧ o.cls = .type "tuple" ∧ o.dict = none
  g_MOST_ROWS : ∃ t, mg "MOST_ROWS" = some (.int 16 t)
  D_CODE_ROWS : KDict K w Z.c_CODE_ROWS Z.e_CODE_ROWS Z.z_CODE_ROWS
  x_CODE_ROWS : ∀ z : Str, ∃ r, PySem.W.nsIn K Z.c_CODE_ROWS z = some r ∧ RelOpt (RelTu K) (findT tb_CODE_ROWS z) r
  D_DATA_ROWS : KDict K w Z.c_DATA_ROWS Z.e_DATA_ROWS Z.z_DATA_ROWS
  x_DATA_ROWS : ∀ z : Str, ∃ r, PySem.W.nsIn K Z.c_DATA_ROWS z = some r ∧ RelOpt (RelTu K) (findT tb_DATA_ROWS z) r
  D_BOUNDS : KDict K w Z.c_BOUNDS Z.e_BOUNDS Z.z_BOUNDS
  x_BOUNDS : ∀ z : Str, ∃ r, PySem.W.nsIn K Z.c_BOUNDS z = some r ∧ RelOpt (RelTu K) (findT tb_BOUNDS z) r
abbrev s_E_InvalidName : Stmt := inClass (top 4) 0
abbrev s_E_InvalidPart : Stmt := inClass (top 5) 0
abbrev s_E_InvalidAlignment : Stmt := inClass (top 6) 0
abbrev s_E_InvalidScope : Stmt := inClass (top 7) 0
abbrev s_E_InvalidRow : Stmt := inClass (top 8) 0
abbrev s_E_NotClosing : Stmt := inClass (top 9) 0
abbrev s_E_TooMany : Stmt := inClass (top 10) 0

section
variable {X : Cx} {CX : CXT} {k : Nat} {f : Addr} {fd : FuncData} {ps ks : List Str} {sp : Sp} {E : XK} {x : Str} {p pos : Pos} {kws : List Keyword} {tk : TA} {g : List Value → List Value → List Value} {gV : List V → List V → List V}
/-- f(k = v, ..), no value by place -/
theorem pe_callN0 (F : FnOk X.prog X.w X.K X.mg X.base CX k f fd ps sp) (hr : Room k X.A) (hg : Gl X x) (hm : X.mg x = some (.ref f)) (hk : PySem.W.keepIn X.K (.ref f) = true) (hb : KBn X.K fd ps 0 ks g gV) (hx : Passes CX X E) (hkw : PK X kws tk)
    (hall : (backToKw pos (keywordEach kws X.env)).all (·.1.isSome) = true := by rfl) (hks : (backToKw pos (keywordEach kws X.env)).filterMap (·.1) = ks := by rfl) (hdb : (x == ("__debug__" : Str)) = false := by decide)
    (hpl : ((backTo pos (starEach [] X.env)).any (·.1) || (backToKw pos (keywordEach kws X.env)).any (·.1.isNone)) = false := by rfl) :
    PE X (.Call (.Name x p) [] kws pos) (tCallN 0 ks.length sp gV E tNil tk) := by
  refine ⟨fun pins s σ H Q I h => ?_⟩
  refine wpAny_Call_Name_kw (ld_glob I hg hm ?_ hdb)
  refine PySem.W.callWith_KW0 (h₀ := X.base) I.ok.mod.kin hk hall ?_ hpl
  refine thn (hkw.run pos pins s σ H _ I h) fun ws s2 ⟨zs, H2, I2, rz, l1, l2, q2⟩ => ⟨I2.kIn, ?_⟩
  rw [hks]
  exact run_fnN (us := []) (vs := []) F hr hb hx I2 .nil rz rfl l2 q2
end
theorem getD_rel : ∀ {vs : List V} {us : List Value} (h : Vals vs us) (i : Nat), RelV (vs.getD i .non) (us.getD i .none)
  | _, _, .nil, _ => rfl
  | _, _, .cons r _, 0 => r
  | _, _, .cons _ t, i + 1 => getD_rel t i
theorem kbn_d_Piece___init___4 {K : PySem.W.Frag} {f : Addr} {fd : FuncData} (F : FunD K "__init__" "Piece.__init__" (defArgs s_Piece___init__) (defBody s_Piece___init__) (defScope s_Piece___init__) [] [("alignment", .int 1), ("scope", .str "local"), ("keep", .bl false)] f fd) : ∃ ds, Vals ([("alignment", .int 1), ("scope", .str "local"), ("keep", .bl false)].map (·.2)) ds ∧ Binds K fd ["self", "name", "part", "rows", "alignment", "scope", "keep"] ds :=
  F.binds0 (ps := ["self", "name", "part", "rows", "alignment", "scope", "keep"]) 4 (fun z => nomatch z) rfl fun D doc pm an cdv ct us its l1 l2 => match us, its, l1, l2 with
  | [_, _, _, _], [_, _, _], _, _ => ⟨_, _, _, _, _, _, rfl, rfl, ⟨_, _, _, _, _, _, rfl, rfl, ⟨_, _, _, _, _, _, rfl, rfl, rfl⟩⟩⟩
theorem kbn_d_Piece___init___4_scope {K : PySem.W.Frag} {f : Addr} {fd : FuncData} (F : FunD K "__init__" "Piece.__init__" (defArgs s_Piece___init__) (defBody s_Piece___init__) (defScope s_Piece___init__) [] [("alignment", .int 1), ("scope", .str "local"), ("keep", .bl false)] f fd) : ∃ g, KBn K fd ["self", "name", "part", "rows", "alignment", "scope", "keep"] 4 ["scope"] g (fun us ws => pick us 0 ++ pick us 1 ++ pick us 2 ++ pick us 3 ++ [.int 1] ++ pick ws 0 ++ [.bl false]) := by
  obtain ⟨mv, h⟩ := F.kbinds0 (ps := ["self", "name", "part", "rows", "alignment", "scope", "keep"]) 4 ["scope"] [("alignment", .int 1), ("keep", .bl false)] (fun us mv ws => pick us 0 ++ pick us 1 ++ pick us 2 ++ pick us 3 ++ pick mv 0 ++ pick ws 0 ++ pick mv 1) (fun z => nomatch z) (memC (.head _) (memC (.tail _ (.tail _ (.head _))) memE)) (fun r1 rm r2 => (((((((pickR r1 0).append (pickR r1 1)).append (pickR r1 2)).append (pickR r1 3)).append (pickR rm 0)).append (pickR r2 0)).append (pickR rm 1))) fun D doc pm an cdv ct us mv ws l1 l2 l3 => match us, mv, ws, l1, l2, l3 with
  | [_, _, _, _], [_, _], [_], _, _, _ => ⟨_, _, _, _, _, _, rfl, rfl, ⟨_, _, _, _, _, _, rfl, rfl, rfl⟩⟩
  exact ⟨_, h⟩
theorem kbn_d_Piece___init___4_alignment_scope {K : PySem.W.Frag} {f : Addr} {fd : FuncData} (F : FunD K "__init__" "Piece.__init__" (defArgs s_Piece___init__) (defBody s_Piece___init__) (defScope s_Piece___init__) [] [("alignment", .int 1), ("scope", .str "local"), ("keep", .bl false)] f fd) : ∃ g, KBn K fd ["self", "name", "part", "rows", "alignment", "scope", "keep"] 4 ["alignment", "scope"] g (fun us ws => pick us 0 ++ pick us 1 ++ pick us 2 ++ pick us 3 ++ pick ws 0 ++ pick ws 1 ++ [.bl false]) := by
  obtain ⟨mv, h⟩ := F.kbinds0 (ps := ["self", "name", "part", "rows", "alignment", "scope", "keep"]) 4 ["alignment", "scope"] [("keep", .bl false)] (fun us mv ws => pick us 0 ++ pick us 1 ++ pick us 2 ++ pick us 3 ++ pick ws 0 ++ pick ws 1 ++ pick mv 0) (fun z => nomatch z) (memC (.tail _ (.tail _ (.head _))) memE) (fun r1 rm r2 => (((((((pickR r1 0).append (pickR r1 1)).append (pickR r1 2)).append (pickR r1 3)).append (pickR r2 0)).append (pickR r2 1)).append (pickR rm 0))) fun D doc pm an cdv ct us mv ws l1 l2 l3 => match us, mv, ws, l1, l2, l3 with
  | [_, _, _, _], [_], [_, _], _, _, _ => ⟨_, _, _, _, _, _, rfl, rfl, rfl⟩
  exact ⟨_, h⟩
theorem kbn_d_Piece___init___4_alignment {K : PySem.W.Frag} {f : Addr} {fd : FuncData} (F : FunD K "__init__" "Piece.__init__" (defArgs s_Piece___init__) (defBody s_Piece___init__) (defScope s_Piece___init__) [] [("alignment", .int 1), ("scope", .str "local"), ("keep", .bl false)] f fd) : ∃ g, KBn K fd ["self", "name", "part", "rows", "alignment", "scope", "keep"] 4 ["alignment"] g (fun us ws => pick us 0 ++ pick us 1 ++ pick us 2 ++ pick us 3 ++ pick ws 0 ++ [.str "local"] ++ [.bl false]) := by
  obtain ⟨mv, h⟩ := F.kbinds0 (ps := ["self", "name", "part", "rows", "alignment", "scope", "keep"]) 4 ["alignment"] [("scope", .str "local"), ("keep", .bl false)] (fun us mv ws => pick us 0 ++ pick us 1 ++ pick us 2 ++ pick us 3 ++ pick ws 0 ++ pick mv 0 ++ pick mv 1) (fun z => nomatch z) (memC (.tail _ (.head _)) (memC (.tail _ (.tail _ (.head _))) memE)) (fun r1 rm r2 => (((((((pickR r1 0).append (pickR r1 1)).append (pickR r1 2)).append (pickR r1 3)).append (pickR r2 0)).append (pickR rm 0)).append (pickR rm 1))) fun D doc pm an cdv ct us mv ws l1 l2 l3 => match us, mv, ws, l1, l2, l3 with
  | [_, _, _, _], [_, _], [_], _, _, _ => ⟨_, _, _, _, _, _, rfl, rfl, ⟨_, _, _, _, _, _, rfl, rfl, rfl⟩⟩
  exact ⟨_, h⟩
theorem kbn_d_Piece___init___4_alignment_scope_keep {K : PySem.W.Frag} {f : Addr} {fd : FuncData} (F : FunD K "__init__" "Piece.__init__" (defArgs s_Piece___init__) (defBody s_Piece___init__) (defScope s_Piece___init__) [] [("alignment", .int 1), ("scope", .str "local"), ("keep", .bl false)] f fd) : ∃ g, KBn K fd ["self", "name", "part", "rows", "alignment", "scope", "keep"] 4 ["alignment", "scope", "keep"] g (fun us ws => [(us ++ ws).getD 0 .non, (us ++ ws).getD 1 .non, (us ++ ws).getD 2 .non, (us ++ ws).getD 3 .non, (us ++ ws).getD 4 .non, (us ++ ws).getD 5 .non, (us ++ ws).getD 6 .non]) := by
  obtain ⟨oc, od, dV, kV, doc, pm, an, cdv, ct, osl, rfl, lk, hcd, hD, hK⟩ := F.ex
  rcases hD with ⟨_, rfl⟩ | ⟨e, _⟩
  · rcases hK with e | ⟨D, rfl, hq⟩
    · exact absurd e (fun z => nomatch z)
    · refine ⟨fun us ws => [(us ++ ws).getD 0 .none, (us ++ ws).getD 1 .none, (us ++ ws).getD 2 .none, (us ++ ws).getD 3 .none, (us ++ ws).getD 4 .none, (us ++ ws).getD 5 .none, (us ++ ws).getD 6 .none], fun s us ws X l1 l2 => ?_, fun r1 r2 => .cons (getD_rel (r1.append r2) 0) (.cons (getD_rel (r1.append r2) 1) (.cons (getD_rel (r1.append r2) 2) (.cons (getD_rel (r1.append r2) 3) (.cons (getD_rel (r1.append r2) 4) (.cons (getD_rel (r1.append r2) 5) (.cons (getD_rel (r1.append r2) 6) (.nil)))))))⟩
      match us, ws, l1, l2 with
      | [_, _, _, _], [_, _, _], _, _ => exact .of_eq rfl
  · exact absurd rfl e
theorem kbn_d_Piece___init___1_scope_rows_name_alignment_part {K : PySem.W.Frag} {f : Addr} {fd : FuncData} (F : FunD K "__init__" "Piece.__init__" (defArgs s_Piece___init__) (defBody s_Piece___init__) (defScope s_Piece___init__) [] [("alignment", .int 1), ("scope", .str "local"), ("keep", .bl false)] f fd) : ∃ g, KBn K fd ["self", "name", "part", "rows", "alignment", "scope", "keep"] 1 ["scope", "rows", "name", "alignment", "part"] g (fun us ws => pick us 0 ++ pick ws 2 ++ pick ws 4 ++ pick ws 1 ++ pick ws 3 ++ pick ws 0 ++ [.bl false]) := by
  obtain ⟨mv, h⟩ := F.kbinds0 (ps := ["self", "name", "part", "rows", "alignment", "scope", "keep"]) 1 ["scope", "rows", "name", "alignment", "part"] [("keep", .bl false)] (fun us mv ws => pick us 0 ++ pick ws 2 ++ pick ws 4 ++ pick ws 1 ++ pick ws 3 ++ pick ws 0 ++ pick mv 0) (fun z => nomatch z) (memC (.tail _ (.tail _ (.head _))) memE) (fun r1 rm r2 => (((((((pickR r1 0).append (pickR r2 2)).append (pickR r2 4)).append (pickR r2 1)).append (pickR r2 3)).append (pickR r2 0)).append (pickR rm 0))) fun D doc pm an cdv ct us mv ws l1 l2 l3 => match us, mv, ws, l1, l2, l3 with
  | [_], [_], [_, _, _, _, _], _, _, _ => ⟨_, _, _, _, _, _, rfl, rfl, rfl⟩
  exact ⟨_, h⟩

/-! ### readings answered construct by construct -/
namespace Go
section
variable {K : PySem.W.Frag} {σ σ' : L2.St} {H : Hp} {Q : VK} {N : L2.St → Hp → Prop} {R : VK} {B C : L2.St → Hp → Prop} {E : XK}
theorem var {i : Nat} {v : V} (h : σ[i]? = some (some v)) (q : Q v H) : tVar i σ H Q := ⟨v, h, q⟩
theorem cst {v : V} (q : Q v H) : tC v σ H Q := q
theorem op {r : R2} {ta tb : TE} (q : ta σ H fun x H1 => tb σ H1 fun y H2 => r x y H2 Q) : tOp r ta tb σ H Q := q
theorem un {r : V → Hp → VK → Prop} {ta : TE} (q : ta σ H fun x H1 => r x H1 Q) : tUn r ta σ H Q := q
theorem cb {r : List V → Hp → VK → Prop} {t : TA} (q : t σ H fun vs H1 => r vs H1 Q) : tCB r t σ H Q := q
theorem nil {Q : List V → Hp → Prop} (q : Q [] H) : tNil σ H Q := q
theorem cons {ta : TE} {tr : TA} {Q : List V → Hp → Prop} (q : ta σ H fun x H1 => tr σ H1 fun xs H2 => Q (x :: xs) H2) : tCons ta tr σ H Q := q
theorem call {sp : Sp} {t : TA} (q : t σ H fun vs H1 => sp vs H1 Q E) : tCall sp [] E t σ H Q := by
  unfold tCall
  simpa only [List.append_nil] using q
/-- both ways of a test -/
def Way (b : Bool) (x y : Prop) : Prop := (b = true → x) ∧ (b = false → y)
theorem way_if {b : Bool} {x y : Prop} : (if b = true then x else y) = Way b x y := by
  cases b <;> simp [Way]
theorem wT {x y : Prop} (h : x) : Way true x y := ⟨fun _ => h, fun e => nomatch e⟩
theorem wF {x y : Prop} (h : y) : Way false x y := ⟨(fun e => nomatch e), fun _ => h⟩
theorem wd {p : Prop} {d : Decidable p} {x y : Prop} (h : p → x) (k : ¬ p → y) : Way (@decide p d) x y := ⟨fun e => h (of_decide_eq_true e), fun e => k (of_decide_eq_false e)⟩
theorem wn {b : Bool} {x y : Prop} (h : Way b y x) : Way (!b) x y := by
  cases b
  · exact ⟨fun _ => h.2 rfl, fun e => nomatch e⟩
  · exact ⟨(fun e => nomatch e), fun _ => h.1 rfl⟩
theorem wayT {b : Bool} {x y : Prop} (e : b = true) (h : x) : Way b x y := by
  subst e
  exact wT h
theorem wayF {b : Bool} {x y : Prop} (e : b = false) (h : y) : Way b x y := by
  subst e
  exact wF h
theorem wayE {b c : Bool} {x y : Prop} (e : b = c) (h : Way c x y) : Way b x y := e ▸ h
theorem bE {b c : Bool} {Q : VK} {H : Hp} (e : b = c) (h : Q (.bl c) H) : Q (.bl b) H := e ▸ h
theorem wb {b : Bool} {x y : Prop} (h : b = true → x) (k : b = false → y) : Way b x y := ⟨h, k⟩
def IsBl (x : V) (p : Bool → Prop) : Prop := ∃ k, x = .bl k ∧ p k
theorem isBl {b : Bool} {p : Bool → Prop} (h : p b) : IsBl (.bl b) p := ⟨b, rfl, h⟩
theorem test {te : TE} {Q : Bool → Hp → Prop} (q : te σ H fun x H1 => IsBl x fun k => Q k H1) : tTest te σ H Q := q
theorem tb {te : TE} {Q : Bool → Hp → Prop} (q : te σ H fun x H1 => IsBl x fun k => Q k H1) : tB te σ H Q := q
theorem and {t u : TT} {Q : Bool → Hp → Prop} (q : t σ H fun c H1 => Way c (u σ H1 Q) (Q false H1)) : tAnd t u σ H Q := by
  unfold tAnd
  simpa only [way_if] using q
theorem or {t u : TT} {Q : Bool → Hp → Prop} (q : t σ H fun c H1 => Way c (Q true H1) (u σ H1 Q)) : tOr t u σ H Q := by
  unfold tOr
  simpa only [way_if] using q
theorem not {t : TT} {Q : Bool → Hp → Prop} (q : t σ H fun c H1 => Q (!c) H1) : tNot t σ H Q := q
theorem andV {ta tb : TE} (q : ta σ H fun x H1 => IsBl x fun c => Way c (tb σ H1 Q) (Q (.bl false) H1)) : tAndV ta tb σ H Q := by
  unfold tAndV
  simp only [way_if]
  exact q
theorem orV {ta tb : TE} (q : ta σ H fun x H1 => IsBl x fun c => Way c (Q (.bl true) H1) (tb σ H1 Q)) : tOrV ta tb σ H Q := by
  unfold tOrV
  simp only [way_if]
  exact q
theorem notV {ta : TE} (q : ta σ H fun x H1 => IsBl x fun c => Q (.bl (!c)) H1) : tNotV ta σ H Q := q
theorem ife {t : TT} {ta tb : TE} (q : t σ H fun c H1 => Way c (ta σ H1 Q) (tb σ H1 Q)) : tIf t ta tb σ H Q := by
  unfold tIf
  simpa only [way_if] using q
theorem chain {r r' : R2} {ta tb tc : TE} (q : ta σ H fun x H1 => tb σ H1 fun y H2 => r x y H2 fun z H3 => IsBl z fun k => Way k (tc σ H3 fun v H4 => r' y v H4 Q) (Q (.bl false) H3)) : tChain r r' ta tb tc σ H Q := by
  unfold tChain
  simp only [way_if]
  exact q
theorem isN {ta : TE} (q : ta σ H fun x H1 => Q (.bl (decide (x = .non))) H1) : tIsN ta σ H Q := q
theorem notN {ta : TE} (q : ta σ H fun x H1 => Q (.bl (!decide (x = .non))) H1) : tNotN ta σ H Q := q
/-! statements -/
theorem next (q : N σ H) : tNext ⟨N, R, B, C⟩ σ H := q
theorem seq {t u : TS} (q : t ⟨u ⟨N, R, B, C⟩, R, B, C⟩ σ H) : tSeq t u ⟨N, R, B, C⟩ σ H := q
theorem drop {te : TE} (q : te σ H fun _ H1 => N σ H1) : tDrop te ⟨N, R, B, C⟩ σ H := q
theorem ret {te : TE} (q : te σ H R) : tRet te ⟨N, R, B, C⟩ σ H := q
theorem retN (q : R .non H) : tRetN ⟨N, R, B, C⟩ σ H := q
theorem ifS {c : TT} {t u : TS} {D : Ends} (q : c σ H fun b H1 => Way b (t D σ H1) (u D σ H1)) : tIfS c t u D σ H := by
  unfold tIfS
  simpa only [way_if] using q
theorem brk (q : B σ H) : tBreak ⟨N, R, B, C⟩ σ H := q
theorem cont (q : C σ H) : tCont ⟨N, R, B, C⟩ σ H := q
theorem asg {te : TE} {g : TG} (q : te σ H fun x H1 => g x σ H1 N) : tAsg te g ⟨N, R, B, C⟩ σ H := q
theorem name {i : Nat} {v : V} {Q : L2.St → Hp → Prop} (h : σ.set i (some v) = σ') (q : Q σ' H) : gName i v σ H Q := by
  subst h
  exact q
theorem sub {to ti : TE} {t : TSet} {v : V} {Q : L2.St → Hp → Prop} (q : to σ H fun o H1 => ti σ H1 fun i H2 => t o i v H2 fun H3 => Q σ H3) : gSub to ti t v σ H Q := q
theorem gtup {n : Nat} {t : TGs} {a : Addr} {xs : List V} {Q : L2.St → Hp → Prop} (h : SqT K H a xs) (l : xs.length = n) (q : t xs σ H Q) : gTup K n t (.ref a) σ H Q := ⟨a, xs, rfl, h, l, q⟩
theorem gnil {Q : L2.St → Hp → Prop} (q : Q σ H) : gNil [] σ H Q := ⟨rfl, q⟩
theorem gcons {t : TG} {u : TGs} {v : V} {r : List V} {Q : L2.St → Hp → Prop} (q : t v σ H fun σ1 H1 => u r σ1 H1 Q) : gCons t u (v :: r) σ H Q := ⟨v, r, rfl, q⟩
def Two (σ : L2.St) (i j : Nat) (vs : List V) (k : L2.St → Prop) : Prop := ∃ v w, vs = [v, w] ∧ k ((σ.set i (some v)).set j (some w))
theorem par {i j : Nat} {ta : TA} (q : ta σ H fun vs H1 => Two σ i j vs fun σ1 => N σ1 H1) : tPar i j ta ⟨N, R, B, C⟩ σ H := q
theorem par2 {i j : Nat} {v w : V} {k : L2.St → Prop} (h : (σ.set i (some v)).set j (some w) = σ') (q : k σ') : Two σ i j [v, w] k := by
  subst h
  exact ⟨v, w, rfl, q⟩
def Three (σ : L2.St) (i j l : Nat) (vs : List V) (k : L2.St → Prop) : Prop := ∃ u v w, vs = [u, v, w] ∧ k (((σ.set i (some u)).set j (some v)).set l (some w))
theorem par3 {i j l : Nat} {ta : TA} (q : ta σ H fun vs H1 => Three σ i j l vs fun σ1 => N σ1 H1) : tPar3 i j l ta ⟨N, R, B, C⟩ σ H := q
theorem par33 {i j l : Nat} {u v w : V} {k : L2.St → Prop} (h : ((σ.set i (some u)).set j (some v)).set l (some w) = σ') (q : k σ') : Three σ i j l [u, v, w] k := by
  subst h
  exact ⟨u, v, w, rfl, q⟩
/-! operators -/
theorem i0 {g : Int → Int → V} {i j : Int} (q : Q (g i j) H) : rI0 g (.int i) (.int j) H Q := ⟨i, j, rfl, rfl, q⟩
theorem i1 {c : Int → Int → Prop} {g : Int → Int → V} {i j : Int} (h : c i j) (q : Q (g i j) H) : rI c g (.int i) (.int j) H Q := ⟨i, j, rfl, rfl, h, q⟩
theorem u1 {g : Int → V} {i : Int} (q : Q (g i) H) : rU g (.int i) H Q := ⟨i, rfl, q⟩
theorem eqI {i j : Int} (q : Q (.bl (decide (i = j))) H) : rEq (.int i) (.int j) H Q := by
  refine ⟨rfl, ?_⟩
  have e : decide (V.int i = V.int j) = decide (i = j) := by rw [Bool.eq_iff_iff]; simp
  rw [e]
  exact q
theorem neI {i j : Int} (q : Q (.bl (!decide (i = j))) H) : rNe (.int i) (.int j) H Q := by
  refine ⟨rfl, ?_⟩
  have e : decide (V.int i = V.int j) = decide (i = j) := by rw [Bool.eq_iff_iff]; simp
  rw [e]
  exact q
theorem eqS {i j : Str} (q : Q (.bl (decide (i = j))) H) : rEq (.str i) (.str j) H Q := by
  refine ⟨rfl, ?_⟩
  have e : decide (V.str i = V.str j) = decide (i = j) := by rw [Bool.eq_iff_iff]; simp
  rw [e]
  exact q
theorem neS {i j : Str} (q : Q (.bl (!decide (i = j))) H) : rNe (.str i) (.str j) H Q := by
  refine ⟨rfl, ?_⟩
  have e : decide (V.str i = V.str j) = decide (i = j) := by rw [Bool.eq_iff_iff]; simp
  rw [e]
  exact q
theorem eqB {i j : Bool} (q : Q (.bl (decide (i = j))) H) : rEq (.bl i) (.bl j) H Q := by
  refine ⟨rfl, ?_⟩
  have e : decide (V.bl i = V.bl j) = decide (i = j) := by rw [Bool.eq_iff_iff]; simp
  rw [e]
  exact q
theorem neB {i j : Bool} (q : Q (.bl (!decide (i = j))) H) : rNe (.bl i) (.bl j) H Q := by
  refine ⟨rfl, ?_⟩
  have e : decide (V.bl i = V.bl j) = decide (i = j) := by rw [Bool.eq_iff_iff]; simp
  rw [e]
  exact q
theorem ixL {p : Addr} {xs : List V} {i : Int} {v : V} (h : SqL K H p xs) (g : atI xs i = some v) (q : Q v H) : rIxL K (.ref p) (.int i) H Q := ⟨p, xs, i, v, rfl, rfl, h, g, q⟩
theorem ixT {p : Addr} {xs : List V} {i : Int} {v : V} (h : SqT K H p xs) (g : atI xs i = some v) (q : Q v H) : rIxT K (.ref p) (.int i) H Q := ⟨p, xs, i, v, rfl, rfl, h, g, q⟩
/-! what is made and what is written -/
/-- all that was tracked, what stands at p apart, is as it was -/
def But (p : Addr) (H H1 : Hp) : Prop := ∀ a o, a ≠ p → H a = some o → H1 a = some o
theorem Sn {p : Addr} {o : HO} (h : H p = none) : Same H (upd H p o) := fun a u e => by rw [upd_ne (ne_of_none e h)]; exact e
def New (o : HO) (H1 : Hp) (k : Addr → Hp → Prop) : Prop := ∀ p, H1 p = none → k p (upd H1 p o)
theorem new {o : HO} {H1 : Hp} {k : Addr → Hp → Prop} (q : ∀ p H2, H1 p = none → Same H1 H2 → H2 p = some o → k p H2) : New o H1 k := fun p h => q p _ h (Sn h) upd_same
def Wr (p : Addr) (o : HO) (H1 : Hp) (k : Hp → Prop) : Prop := k (upd H1 p o)
theorem wr {p : Addr} {o : HO} {H1 : Hp} {k : Hp → Prop} (q : ∀ H2, But p H1 H2 → H2 p = some o → k H2) : Wr p o H1 k := q _ (fun a u n h => by rw [upd_ne n]; exact h) upd_same
theorem lst {t : TA} (q : t σ H fun xs H1 => xs.length ≤ sizeLine ∧ New (.lst xs) H1 fun p H2 => Q (.ref p) H2) : tLst t σ H Q := q
theorem tup {t : TA} (q : t σ H fun xs H1 => xs.length ≤ sizeLine ∧ New (.tup xs) H1 fun p H2 => Q (.ref p) H2) : tTup t σ H Q := q
theorem setL {p : Addr} {xs ys : List V} {k : Int} {j : Nat} {v : V} {Q : Hp → Prop} (h : H p = some (.lst xs)) (g : ixN xs.length k = some j) (e : xs.set j v = ys) (q : Wr p (.lst ys) H Q) : rSetL (.ref p) (.int k) v H Q := by
  subst e
  exact ⟨p, xs, k, j, rfl, rfl, h, g, q⟩
theorem slL {a : Addr} {xs ys : List V} {lo hi : Option Int} (h : SqL K H a xs) (e : cutV xs lo hi = ys) (q : New (.lst ys) H fun p H1 => Q (.ref p) H1) : rSlL K (.ref a) lo hi H Q := by
  subst e
  exact ⟨a, xs, rfl, h, q⟩
theorem slS {z : Str} {lo hi : Option Int} (h : z.cps.size ≤ sizeLine) (q : Q (.str (cutS z lo hi)) H) : rSlS (.str z) lo hi H Q := ⟨z, rfl, h, q⟩
theorem sl {r : V → Option Int → Option Int → Hp → VK → Prop} {te : TE} {tl th : TO} (q : te σ H fun x H1 => tl σ H1 fun l H2 => th σ H2 fun u H3 => r x l u H3 Q) : tSl r te tl th σ H Q := q
theorem noPart {Q : Option Int → Hp → Prop} (q : Q none H) : tNoPart σ H Q := q
def IsI (x : V) (p : Int → Prop) : Prop := ∃ i, x = .int i ∧ p i
theorem isI {i : Int} {p : Int → Prop} (h : p i) : IsI (.int i) p := ⟨i, rfl, h⟩
theorem part {t : TE} {Q : Option Int → Hp → Prop} (q : t σ H fun x H1 => IsI x fun i => Q (some i) H1) : tPart t σ H Q := q
theorem app {p : Addr} {xs ys : List V} {y : V} (h : H p = some (.lst xs)) (l : xs.length < sizeLine) (e : xs ++ [y] = ys) (q : Wr p (.lst ys) H fun H1 => Q .non H1) : rAppend (.ref p) [y] H Q := by
  subst e
  exact ⟨p, xs, y, rfl, rfl, h, l, q⟩
theorem bm {T : String} {r : V → List V → Hp → VK → Prop} {to : TE} {t : TA} (q : to σ H fun x H1 => tyV K T x H1 ∧ t σ H1 fun xs H2 => r x xs H2 Q) : tBM K T r to t σ H Q := q
theorem bm0 {T : String} {r : V → List V → Hp → VK → Prop} {to : TE} (q : to σ H fun x H1 => tyV K T x H1 ∧ r x [] H1 Q) : tBM0 K T r to σ H Q := q
/-! built-in functions, their readings named -/
def RLen (K : PySem.W.Frag) : List V → Hp → VK → Prop := fun xs H Q => ∃ x n, xs = [x] ∧ LenV K x H n ∧ Q (.int n) H
theorem lenL {a : Addr} {xs : List V} (h : SqL K H a xs) (q : Q (.int (xs.length : Nat)) H) : RLen K [.ref a] H Q := ⟨.ref a, xs.length, rfl, .inl ⟨_, h, rfl⟩, q⟩
theorem lenT {a : Addr} {xs : List V} (h : SqT K H a xs) (q : Q (.int (xs.length : Nat)) H) : RLen K [.ref a] H Q := ⟨.ref a, xs.length, rfl, .inr ⟨_, h, rfl⟩, q⟩
theorem lenS {z : Str} (h : z.cps.size ≤ sizeLine) (q : Q (.int (z.cps.size : Nat)) H) : RLen K [.str z] H Q := ⟨.str z, z.cps.size, rfl, ⟨h, rfl⟩, q⟩
def RInt : List V → Hp → VK → Prop := fun xs H Q => (∃ i, xs = [V.int i] ∧ Q (V.int i) H) ∨ ∃ k, xs = [V.bl k] ∧ Q (V.int (if k = true then 1 else 0)) H
theorem intI {i : Int} (q : Q (.int i) H) : RInt [.int i] H Q := .inl ⟨i, rfl, q⟩
def RAbs : List V → Hp → VK → Prop := fun xs H Q => ∃ i, xs = [V.int i] ∧ Q (V.int (if i < 0 then -i else i)) H
theorem absI {i : Int} (q : ∀ j : Int, 0 ≤ j → (j = i ∨ j = -i) → Q (.int j) H) : RAbs [.int i] H Q := ⟨i, rfl, q _ (by split <;> omega) (by split <;> omega)⟩
def RList (K : PySem.W.Frag) : List V → Hp → VK → Prop := fun xs H Q => ∃ p ys, xs = [.ref p] ∧ (SqL K H p ys ∨ SqT K H p ys) ∧ New (.lst ys) H fun l H1 => Q (.ref l) H1
theorem listL {a : Addr} {xs : List V} (h : SqL K H a xs) (q : New (.lst xs) H fun l H1 => Q (.ref l) H1) : RList K [.ref a] H Q := ⟨a, xs, rfl, .inl h, q⟩
theorem listT {a : Addr} {xs : List V} (h : SqT K H a xs) (q : New (.lst xs) H fun l H1 => Q (.ref l) H1) : RList K [.ref a] H Q := ⟨a, xs, rfl, .inr h, q⟩
theorem isi {x c : V} {t u : Value} {b : Bool} (h1 : ClsV c u) (h2 : TyX K H x t) (h3 : PySem.W.kitOne K t u = some b) (q : Q (.bl b) H) : rIsi K [x, c] H Q := ⟨x, c, t, u, b, rfl, h1, h2, h3, q⟩
end
theorem c_len {X : Cx} : CallR X (.builtin "len") (RLen X.K) := call_len
theorem c_list {X : Cx} : CallR X (.type "list") (RList X.K) := call_list_of
theorem c_abs {X : Cx} : CallR X (.builtin "abs") RAbs := call_abs
theorem c_int {X : Cx} : CallR X (.type "int") RInt := call_int1
theorem cut {t u : TS} {σ : L2.St} {H : Hp} {N : L2.St → Hp → Prop} {R : VK} {B C : L2.St → Hp → Prop} (M : L2.St → Hp → Prop) (q : t ⟨M, R, B, C⟩ σ H) (k : ∀ σ1 H1, M σ1 H1 → u ⟨N, R, B, C⟩ σ1 H1) : C8.tCut t u ⟨N, R, B, C⟩ σ H := ⟨M, q, k⟩
section
variable {K : PySem.W.Frag} {H H1 H2 : Hp} {a b p q : Addr} {o : HO} {xs : List V}
theorem But.refl : But b H H := fun _ _ _ h => h
theorem But.trans (x : But b H H1) (y : But b H1 H2) : But b H H2 := fun a o n h => y a o n (x a o n h)
theorem sb (x : Same H H1) : But b H H1 := fun a o _ h => x a o h
/-- what was made behind H is changed: nothing for H -/
theorem But.own (x : But b H H1) (n : H q = none) (y : But q H1 H2) : But b H H2 := fun a o ne h => y a o (ne_of_none h n) (x a o ne h)
theorem Same.own (x : Same H H1) (n : H q = none) (y : But q H1 H2) : Same H H2 := fun a o h => y a o (ne_of_none h n) (x a o h)
theorem freeS (s : Same H H1) (h : H1 q = none) : H q = none := by
  cases e : H q with
  | none => rfl
  | some o =>
    rw [s q o e] at h
    cases h
theorem freeB (s : But b H H1) (n : q ≠ b) (h : H1 q = none) : H q = none := by
  cases e : H q with
  | none => rfl
  | some o =>
    rw [s q o n e] at h
    cases h
theorem oS (s : Same H H1) (h : H p = some o) : H1 p = some o := s _ _ h
theorem oB (s : But b H H1) (n : p ≠ b) (h : H p = some o) : H1 p = some o := s _ _ n h
theorem lS (s : Same H H1) (h : SqL K H a xs) : SqL K H1 a xs := s.seq h
theorem lB (s : But b H H1) (n : a ≠ b) (h : SqL K H a xs) : SqL K H1 a xs := by
  rcases h with (h | ⟨o, h⟩) | h
  · exact .inl (.inl (s _ _ n h))
  · exact .inl (.inr ⟨o, s _ _ n h⟩)
  · exact .inr h
theorem tS (s : Same H H1) (h : SqT K H a xs) : SqT K H1 a xs := by
  rcases h with (h | ⟨o, h⟩) | h
  · exact .inl (.inl (s _ _ h))
  · exact .inl (.inr ⟨o, s _ _ h⟩)
  · exact .inr h
theorem tB (s : But b H H1) (n : a ≠ b) (h : SqT K H a xs) : SqT K H1 a xs := by
  rcases h with (h | ⟨o, h⟩) | h
  · exact .inl (.inl (s _ _ n h))
  · exact .inl (.inr ⟨o, s _ _ n h⟩)
  · exact .inr h
end
/-! ### walks -/
def ForG (J : It) (g : TG) (tb : TS) : TS := fun D σ H => ∃ W : Nat → Nat → L2.St → Hp → Prop, (∃ m, W 0 m σ H) ∧ ∀ i m σ H, W i m σ H →
  (J.stop i H ∧ D.nx σ H) ∨ (J.go i H ∧ ∃ N : L2.St → Hp → Prop, (∀ σ' H', N σ' H' → ∃ m', m' < m ∧ W (i + 1) m' σ' H') ∧ ∀ x H', J.yld i H x H' → g x σ H' fun σ2 H2 => tb { D with nx := N, ct := N, bk := D.nx } σ2 H2)
def LcG (J : It) (g : TG) (tt : TT) (te : TE) (vs : List Nat) : L2.St → Hp → VK → Prop := fun σ H1 Q => ∀ D, H1 D = none → ∃ W : Nat → Nat → Hp → Prop, (∃ m, W 0 m (upd H1 D (.lst []))) ∧ ∀ i m H, W i m H →
  (J.stop i H ∧ Q (.ref D) H) ∨ (J.go i H ∧ ∃ Nx : Hp → Prop, (∀ H', Nx H' → ∃ m', m' < m ∧ W (i + 1) m' H') ∧ ∀ x H', J.yld i H x H' → g x (wipe σ vs) H' fun σ2 H2 => wipe σ2 vs = wipe σ vs ∧ tt σ2 H2 fun b H3 =>
    if b = true then te σ2 H3 fun y H4 => ∃ acc, H4 D = some (.lst acc) ∧ acc.length < sizeLine ∧ Nx (upd H4 D (.lst (acc ++ [y]))) else Nx H3)
def LcEnd (D : Addr) (I : Hp → Prop) (y : V) (H4 : Hp) : Prop := ∃ acc, H4 D = some (.lst acc) ∧ acc.length < sizeLine ∧ I (upd H4 D (.lst (acc ++ [y])))
section
variable {K : PySem.W.Frag} {σ : L2.St} {H H1 : Hp} {Q : VK} {N : L2.St → Hp → Prop} {R : VK} {B C : L2.St → Hp → Prop} {J : It} {n : Nat} {G : Hp → Prop} {Y : Nat → Hp → V → Hp → Prop} {g : TG} {tb : TS} {tt : TT} {te : TE} {vs : List Nat} {a : Addr} {xs ys : List V}
theorem forr {wi : TI} {D : Ends} (q : wi σ H fun J H1 => ForG J g tb D σ H1) : tFor wi g tb D σ H := q
theorem for_w (w : Walk J n G Y) (I : Nat → L2.St → Hp → Prop) (h0 : I 0 σ H) (hG : ∀ i σ1 H1, i ≤ n → I i σ1 H1 → G H1)
    (hs : ∀ i x σ1 H1 H2, i < n → I i σ1 H1 → Y i H1 x H2 → g x σ1 H2 fun σ2 H3 => tb ⟨I (i + 1), R, N, I (i + 1)⟩ σ2 H3) (hd : ∀ σ1 H1, I n σ1 H1 → N σ1 H1) : ForG J g tb ⟨N, R, B, C⟩ σ H :=
  for_it w (D := ⟨N, R, B, C⟩) I h0 hG (fun i x σ1 H1 H2 hi h y => hs i x σ1 H1 H2 hi h y) hd
theorem lc {wi : TI} (q : wi σ H fun J H1 => LcG J g tt te vs σ H1 Q) : tLc wi g tt te vs σ H Q := q
theorem yes {Q : Bool → Hp → Prop} (q : Q true H) : tYes σ H Q := q
theorem lcEnd {D : Addr} {I : Hp → Prop} {y : V} {acc : List V} (h : H D = some (.lst acc)) (l : acc.length < sizeLine) (q : ∀ H2, But D H H2 → H2 D = some (.lst (acc ++ [y])) → I H2) : LcEnd D I y H := ⟨acc, h, l, q _ (fun a o n e => by rw [upd_ne n]; exact e) upd_same⟩
theorem lc_w {σ0 : L2.St} (w : Walk J n G Y) (I : Addr → Nat → Hp → Prop) (ew : wipe σ vs = σ0) (h0 : ∀ D H2, H1 D = none → Same H1 H2 → H2 D = some (.lst []) → I D 0 H2)
    (hG : ∀ D i H, i ≤ n → I D i H → G H)
    (hs : ∀ D i x H H', i < n → I D i H → Y i H x H' → g x σ0 H' fun σ2 H2 => wipe σ2 vs = σ0 ∧ tt σ2 H2 fun b H3 => Way b (te σ2 H3 fun y H4 => LcEnd D (I D (i + 1)) y H4) (I D (i + 1) H3))
    (hd : ∀ D H, I D n H → Q (.ref D) H) : LcG J g tt te vs σ H1 Q := by
  subst ew
  intro D hD
  refine lc_it w (I D) (h0 D _ hD (Sn hD) upd_same) (hG D) ?_ (hd D)
  intro i x H H' hi h y
  have q := hs D i x H H' hi h y
  simp only [← way_if] at q
  exact q
theorem lt_line {m : Nat} (h : m ≤ 100000) : m < sizeLine := Nat.lt_of_le_of_lt h (by decide)
theorem le_line {m : Nat} (h : m ≤ 100000) : m ≤ sizeLine := Nat.le_of_lt (lt_line h)
theorem okW {p q : Prop} (h : p) (k : q) : p ∧ q := ⟨h, k⟩
def AtR (x : V) (k : Addr → Prop) : Prop := ∃ a, x = .ref a ∧ k a
theorem atR {k : Addr → Prop} (h : k a) : AtR (.ref a) k := ⟨a, rfl, h⟩
theorem itL {tl : TE} {T : It → Hp → Prop} (q : tl σ H fun x H1 => AtR x fun a => (∃ xs, SqL K H1 a xs) ∧ T (Itl K a) H1) : iList K tl σ H T := q
theorem itT {tl : TE} {T : It → Hp → Prop} (q : tl σ H fun x H1 => AtR x fun a => (∃ xs, SqT K H1 a xs) ∧ T (Itt K a) H1) : iTup K tl σ H T := q
theorem hasL {q : Prop} (h : SqL K H a xs) (k : q) : (∃ xs, SqL K H a xs) ∧ q := ⟨⟨xs, h⟩, k⟩
theorem hasT {q : Prop} (h : SqT K H a xs) (k : q) : (∃ xs, SqT K H a xs) ∧ q := ⟨⟨xs, h⟩, k⟩
def Is1 (vs : List V) (k : Int → Prop) : Prop := ∃ j, vs = [.int j] ∧ k j
theorem is1 {j : Int} {k : Int → Prop} (h : k j) : Is1 [.int j] k := ⟨j, rfl, h⟩
theorem itR {ta : TA} {T : It → Hp → Prop} (q : ta σ H fun vs H1 => Is1 vs fun j => -(2 ^ 62) ≤ j ∧ j < 2 ^ 62 ∧ T (Itr 0 j.toNat) H1) : iRng1 ta σ H T := q
def Is2 (vs : List V) (k : Int → Int → Prop) : Prop := ∃ i j, vs = [.int i, .int j] ∧ k i j
theorem is2 {i j : Int} {k : Int → Int → Prop} (h : k i j) : Is2 [.int i, .int j] k := ⟨i, j, rfl, h⟩
theorem itR2 {ta : TA} {T : It → Hp → Prop} (q : ta σ H fun vs H1 => Is2 vs fun i j => (-(2 ^ 62) ≤ i ∧ i < 2 ^ 62 ∧ -(2 ^ 62) ≤ j ∧ j < 2 ^ 62) ∧ T (Itr i (j - i).toNat) H1) : iRng2 ta σ H T := q
theorem r2 {i j : Int} {q : Prop} (h : -(2 ^ 62) ≤ i ∧ i < 2 ^ 62 ∧ -(2 ^ 62) ≤ j ∧ j < 2 ^ 62) (k : q) : (-(2 ^ 62) ≤ i ∧ i < 2 ^ 62 ∧ -(2 ^ 62) ≤ j ∧ j < 2 ^ 62) ∧ q := ⟨h, k⟩
theorem r1 {j : Int} {q : Prop} (h1 : -(2 ^ 62) ≤ j) (h2 : j < 2 ^ 62) (k : q) : -(2 ^ 62) ≤ j ∧ j < 2 ^ 62 ∧ q := ⟨h1, h2, k⟩
end
section
variable {K : PySem.W.Frag} {σ : L2.St} {H : Hp} {a b : Addr} {xs ys : List V}
def IsZip (K : PySem.W.Frag) (vs : List V) (H1 : Hp) (k : It → Prop) : Prop := ∃ a b xs ys, vs = [.ref a, .ref b] ∧ ((SqL K H1 a xs ∧ SqL K H1 b ys ∧ k (Itz K a b)) ∨ (SqT K H1 a xs ∧ SqT K H1 b ys ∧ k (RZ.ItzT K a b)))
theorem itZ {ta : TA} {T : It → Hp → Prop} (q : ta σ H fun vs H1 => IsZip K vs H1 fun J => T J H1) : RZ.iZipA K ta σ H T := q
theorem zL {k : It → Prop} (h1 : SqL K H a xs) (h2 : SqL K H b ys) (q : k (Itz K a b)) : IsZip K [.ref a, .ref b] H k := ⟨a, b, xs, ys, rfl, .inl ⟨h1, h2, q⟩⟩
theorem zT {k : It → Prop} (h1 : SqT K H a xs) (h2 : SqT K H b ys) (q : k (RZ.ItzT K a b)) : IsZip K [.ref a, .ref b] H k := ⟨a, b, xs, ys, rfl, .inr ⟨h1, h2, q⟩⟩
theorem allL {bs : List Bool} {Q : VK} (h : SqL K H a (bs.map V.bl)) (q : Q (.bl (bs.all id)) H) : rAll K [.ref a] H Q := ⟨a, bs, rfl, h, q⟩
theorem anyL {bs : List Bool} {Q : VK} (h : SqL K H a (bs.map V.bl)) (q : Q (.bl (bs.any id)) H) : rAny K [.ref a] H Q := ⟨a, bs, rfl, h, q⟩
/-- a new pair of the i-th of xs and the i-th of ys -/
def YP (xs ys : List V) : Nat → Hp → V → Hp → Prop := fun i H v H1 => ∃ T x y, v = .ref T ∧ H T = none ∧ Same H H1 ∧ H1 T = some (.tup [x, y]) ∧ xs[i]? = some x ∧ ys[i]? = some y
theorem walkZ {n : Nat} (hn : n = min xs.length ys.length) : Walk (Itz K a b) n (fun H => SqL K H a xs ∧ SqL K H b ys) (YP xs ys) :=
  (walk_zip hn).mono (fun _ h => h) fun i H x H1 _ _ ⟨T, u, t, e1, e2, e3, e4, e5⟩ => ⟨T, u, t, e1, e2, e3 ▸ Sn e2, e3 ▸ upd_same, e4, e5⟩
theorem walkZT {n : Nat} (hn : n = min xs.length ys.length) : Walk (RZ.ItzT K a b) n (fun H => SqT K H a xs ∧ SqT K H b ys) (YP xs ys) := by
  subst hn
  refine ⟨fun i _ hi q => ?_, fun _ q => ⟨xs, ys, q.1, q.2, by omega⟩, fun i H v H' _ q y => ?_⟩
  · have h1 : i < xs.length := by omega
    have h2 : i < ys.length := by omega
    exact ⟨xs, ys, xs[i], ys[i], q.1, q.2, by simp [h1], by simp [h2]⟩
  · obtain ⟨T, x, z, h1, h2, h3, h4, h5⟩ := y
    exact ⟨T, x, z, h1, h2, h3 ▸ Sn h2, h3 ▸ upd_same, h4 xs q.1, h5 ys q.2⟩
theorem all_rep (n : Nat) : (List.replicate n true).all id = true := by
  rw [List.all_eq_true]
  intro x hx
  rw [(List.mem_replicate.mp hx).2]
  rfl
end
section
variable {K : PySem.W.Frag} {σ : L2.St} {H : Hp} {a : Addr} {xs ys : List V} {Q : VK}
def IsSt (K : PySem.W.Frag) (x : V) (H1 : Hp) (k : List V → Prop) : Prop := ∃ p xs, x = V.ref p ∧ (SqT K H1 p xs ∨ SqL K H1 p xs) ∧ k xs
theorem star {te : TE} {t : TA} {Q : List V → Hp → Prop} (q : te σ H fun x H1 => IsSt K x H1 fun xs => t σ H1 fun ys H2 => Q (xs ++ ys) H2) : StX.tStar K te t σ H Q := q
theorem isStT {k : List V → Prop} (h : SqT K H a xs) (q : k xs) : IsSt K (.ref a) H k := ⟨a, xs, rfl, .inl h, q⟩
theorem isStL {k : List V → Prop} (h : SqL K H a xs) (q : k xs) : IsSt K (.ref a) H k := ⟨a, xs, rfl, .inr h, q⟩
theorem slT {lo hi : Option Int} (h : SqT K H a xs) (w : ¬ (HT.sIx xs.length 0 lo = 0 ∧ HT.sIx xs.length xs.length hi = xs.length)) (e : cutV xs lo hi = ys) (q : New (.tup ys) H fun p H1 => Q (.ref p) H1) : rSlT K (.ref a) lo hi H Q := by
  subst e
  exact ⟨a, xs, rfl, h, w, q⟩
theorem eqD {x y : V} {d e : PyData} (h1 : Dp K H x d) (h2 : Dp K H y e) (h3 : SeqAt.shaped d = true) (h4 : SeqAt.shaped e = true) (q : Q (.bl (PyData.eqv d e)) H) : rEqD K x y H Q := ⟨d, e, h1, h2, h3, h4, q⟩
theorem neD {x y : V} {d e : PyData} (h1 : Dp K H x d) (h2 : Dp K H y e) (h3 : SeqAt.shaped d = true) (h4 : SeqAt.shaped e = true) (q : Q (.bl (!PyData.eqv d e)) H) : rNeD K x y H Q := ⟨d, e, h1, h2, h3, h4, q⟩
end
section
variable {K : PySem.W.Frag} {σ : L2.St} {H : Hp} {a : Addr} {xs ys : List V} {Q : VK} {E : XK}
def Kw (n m : Nat) (sp : Sp) (gV : List V → List V → List V) (E : XK) (vs zs : List V) (H : Hp) (Q : VK) : Prop := vs.length = n ∧ zs.length = m ∧ sp (gV vs zs) H Q E
theorem callN {n m : Nat} {sp : Sp} {gV : List V → List V → List V} {t tk : TA} (q : t σ H fun vs H1 => tk σ H1 fun zs H2 => Kw n m sp gV E vs zs H2 Q) : tCallN n m sp gV E t tk σ H Q := q
theorem okN {n m : Nat} {vs zs as : List V} {sp : Sp} {gV : List V → List V → List V} (h1 : vs.length = n) (h2 : zs.length = m) (e : gV vs zs = as) (q : sp as H Q E) : Kw n m sp gV E vs zs H Q := by
  subst e
  exact ⟨h1, h2, q⟩
theorem rep {k : Int} (h : H a = some (.lst xs)) (h1 : -(2 ^ 63) ≤ k) (h2 : k < 2 ^ 63) (h3 : xs.length * k.toNat ≤ sizeLine) (e : (List.replicate k.toNat xs).flatten = ys) (q : New (.lst ys) H fun p H1 => Q (.ref p) H1) : rRep (.ref a) (.int k) H Q := by
  subst e
  exact ⟨a, k, xs, rfl, rfl, h, h1, h2, h3, q⟩
theorem cat {b : Addr} {zs : List V} (h1 : H a = some (.lst xs)) (h2 : H b = some (.lst ys)) (h3 : xs.length + ys.length ≤ sizeLine) (e : xs ++ ys = zs) (q : New (.lst zs) H fun p H1 => Q (.ref p) H1) : rCat (.ref a) (.ref b) H Q := by
  subst e
  exact ⟨a, b, xs, ys, rfl, rfl, h1, h2, h3, q⟩
def RAddS : R2 := fun x y H Q => ∃ i j, x = .str i ∧ y = .str j ∧ i.length + j.length ≤ sizeLine ∧ Q (.str (i ++ j)) H
theorem c_addS {X : Cx} : OpR X (binaryOp .Add) RAddS := op_add_str
theorem addS {i j : Str} (h : i.cps.size + j.cps.size ≤ sizeLine) (q : Q (.str (i ++ j)) H) : RAddS (.str i) (.str j) H Q := ⟨i, j, rfl, rfl, h, q⟩
theorem mem_atI {α : Type} {xs : List α} {d : Int} (h0 : 0 ≤ d) (h1 : d < xs.length) : ∃ v, atI xs d = some v ∧ v ∈ xs := by
  obtain ⟨j, rfl⟩ : ∃ j : Nat, d = (j : Int) := ⟨d.toNat, by omega⟩
  have hj : j < xs.length := by omega
  exact ⟨xs[j], atI_nat (List.getElem?_eq_getElem hj), List.getElem_mem hj⟩
theorem ixSm {z : Str} {i : Int} (h : z.cps.size ≤ sizeLine) (h0 : 0 ≤ i) (h1 : i < z.cps.toList.length) (q : ∀ c, c ∈ z.cps.toList → Q (.str ⟨#[c]⟩) H) : rIxS (.str z) (.int i) H Q := by
  obtain ⟨c, hc, hm⟩ := mem_atI (xs := z.cps.toList) h0 h1
  exact ⟨z, i, c, rfl, rfl, h, hc, q c hm⟩
theorem ixLm {i : Int} (h : SqL K H a xs) (h0 : 0 ≤ i) (h1 : i < xs.length) (q : ∀ v, v ∈ xs → Q v H) : rIxL K (.ref a) (.int i) H Q := by
  obtain ⟨c, hc, hm⟩ := mem_atI (xs := xs) h0 h1
  exact ⟨a, xs, i, c, rfl, rfl, h, hc, q c hm⟩
theorem ixS {z : Str} {i : Int} {c : Nat} (h : z.cps.size ≤ sizeLine) (g : atI z.cps.toList i = some c) (q : Q (.str ⟨#[c]⟩) H) : rIxS (.str z) (.int i) H Q := ⟨z, i, c, rfl, rfl, h, g, q⟩
end
def kit2 (K : PySem.W.Frag) (t u : Value) (b : Bool) : Prop := PySem.W.kitOne K t u = some b
end Go
/-! ### the bag of the law: a list of a list of ints and four numbers -/
def Bag (H : Hp) (b l : Addr) : Prop := ∃ (ns : List Int) (i : Nat) (r m n : Int), H b = some (.lst [.ref l, .int i, .int r, .int m, .int n]) ∧ H l = some (.lst (ns.map V.int)) ∧ l ≠ b ∧ ns.length ≤ 63 ∧ 0 ≤ r ∧ 0 ≤ m ∧ m < 2147483648
abbrev Stp (b : Addr) (H H' : Hp) : Prop := Go.But b H H'
theorem Stp.refl {b : Addr} {H : Hp} : Stp b H H := fun _ _ _ h => h
theorem Stp.trans {b : Addr} {H H1 H2 : Hp} (x : Stp b H H1) (y : Stp b H1 H2) : Stp b H H2 := fun a o n h => y a o n (x a o n h)
theorem Stp.put {b : Addr} {H : Hp} {o : HO} : Stp b H (upd H b o) := fun a u n h => by rw [upd_ne n]; exact h
theorem Stp.new {b p : Addr} {H : Hp} {o : HO} (h : H p = none) : Stp b H (upd H p o) := fun a u _ e => by rw [upd_ne (ne_of_none e h)]; exact e
theorem Same.new {p : Addr} {H : Hp} {o : HO} (h : H p = none) : Same H (upd H p o) := fun a u e => by rw [upd_ne (ne_of_none e h)]; exact e
theorem Same.stp {b : Addr} {H H' : Hp} (h : Same H H') : Stp b H H' := fun a o _ e => h a o e
theorem Bag.same {b l : Addr} {H H' : Hp} (s : Same H H') (h : Bag H b l) : Bag H' b l := by
  obtain ⟨ns, i, r, m, n, h1, h2, h3⟩ := h
  exact ⟨ns, i, r, m, n, s _ _ h1, s _ _ h2, h3⟩
theorem Bag.but {b l q : Addr} {H H' : Hp} (s : Go.But q H H') (n1 : b ≠ q) (n2 : l ≠ q) (h : Bag H b l) : Bag H' b l := by
  obtain ⟨ns, i, r, m, n, h1, h2, h3⟩ := h
  exact ⟨ns, i, r, m, n, s _ _ n1 h1, s _ _ n2 h2, h3⟩
theorem Bag.at {b l : Addr} {H : Hp} (h : Bag H b l) : ∃ u, H b = some u := by
  obtain ⟨ns, i, r, m, n, h1, _⟩ := h
  exact ⟨_, h1⟩
theorem Bag.new {b l p : Addr} {H : Hp} {o : HO} (h : Bag H b l) (hp : H p = none) : Bag (upd H p o) b l := h.same (Same.new hp)
theorem Bag.ne {b l p : Addr} {H : Hp} (h : Bag H b l) (hp : H p = none) : p ≠ b := by
  obtain ⟨ns, i, r, m, n, h1, _⟩ := h
  exact (ne_of_none h1 hp).symm
theorem Bag.nel {b l p : Addr} {H : Hp} (h : Bag H b l) (hp : H p = none) : p ≠ l := by
  obtain ⟨ns, i, r, m, n, _, h1, _⟩ := h
  exact (ne_of_none h1 hp).symm
/-- a list of one's own is written -/
theorem Bag.put {b l p : Addr} {H : Hp} {o : HO} (h : Bag H b l) (n : p ≠ b) (nl : p ≠ l) : Bag (upd H p o) b l := by
  obtain ⟨ns, i, r, m, c, h1, h2, h3⟩ := h
  exact ⟨ns, i, r, m, c, by rw [upd_ne n.symm]; exact h1, by rw [upd_ne nl.symm]; exact h2, h3⟩
/-- what was new is new: the bag stands behind, too -/
theorem Stp.free {b l p : Addr} {H H' : Hp} (s : Stp b H H') (hb : Bag H' b l) (hp : H' p = none) : H p = none := Go.freeB s (hb.ne hp) hp
theorem Stp.sqL {K : PySem.W.Frag} {b a : Addr} {H H' : Hp} {xs : List V} (s : Stp b H H') (n : a ≠ b) (h : SqL K H a xs) : SqL K H' a xs := Go.lB s n h
theorem Stp.sqT {K : PySem.W.Frag} {b a : Addr} {H H' : Hp} {xs : List V} (s : Stp b H H') (n : a ≠ b) (h : SqT K H a xs) : SqT K H' a xs := Go.tB s n h
local macro_rules | `(tactic| tm_at "idx") => `(tactic| first
  | assumption
  | fail)
local macro_rules | `(tactic| tm_at "idx") => `(tactic| first
  | exact atI_nat (j := 2) rfl
  | exact atI_nat (j := 3) rfl
  | exact atI_nat (j := 4) rfl
  | fail)
local macro_rules | `(tactic| tm_at "idx") => `(tactic| first
  | rfl
  | exact atI_nat (j := 0) rfl
  | exact atI_nat (j := 1) rfl
  | fail)
local macro_rules | `(tactic| tm_at "ixn") => `(tactic| first
  | exact (rfl : _ = some 3)
  | exact (rfl : _ = some 4)
  | rfl
  | fail)
local macro_rules | `(tactic| tm_at "ixn") => `(tactic| first
  | exact (rfl : _ = some 0)
  | exact (rfl : _ = some 1)
  | exact (rfl : _ = some 2)
  | fail)
local macro_rules | `(tactic| tm_at "ne") => `(tactic| first
  | assumption
  | exact Ne.symm (by assumption)
  | fail)
local macro_rules | `(tactic| tm_at "hpO") => `(tactic| first
  | assumption
  | (refine' Go.oS (by assumption) ?z0; (case z0 => tm_at "hpO"))
  | (refine' Go.oB (by assumption) ?z0 ?z1; (case z0 => tm_at "ne"); (case z1 => tm_at "hpO"))
  | fail)
local macro_rules | `(tactic| tm_at "hpL") => `(tactic| first
  | (refine' Go.lB (by assumption) ?z0 ?z1; (case z0 => tm_at "ne"); (case z1 => tm_at "hpL"))
  | fail)
local macro_rules | `(tactic| tm_at "hpL") => `(tactic| first
  | assumption
  | exact SqL.of (by assumption)
  | (refine' Go.lS (by assumption) ?z0; (case z0 => tm_at "hpL"))
  | fail)
local macro_rules | `(tactic| tm_at "hpT") => `(tactic| first
  | (refine' Go.tB (by assumption) ?z0 ?z1; (case z0 => tm_at "ne"); (case z1 => tm_at "hpT"))
  | fail)
local macro_rules | `(tactic| tm_at "hpT") => `(tactic| first
  | assumption
  | exact SqT.of (by assumption)
  | (refine' Go.tS (by assumption) ?z0; (case z0 => tm_at "hpT"))
  | fail)
local macro_rules | `(tactic| tm_at "bag") => `(tactic| first
  | assumption
  | (refine' Bag.same (by assumption) ?z0; (case z0 => tm_at "bag"))
  | (refine' Bag.but (by assumption) ?z0 ?z1 ?z2; (case z0 => tm_at "ne"); (case z1 => tm_at "ne"); (case z2 => tm_at "bag"))
  | fail)
local macro_rules | `(tactic| tm_at "non") => `(tactic| first
  | assumption
  | (refine' Go.freeS (by assumption) ?z0; (case z0 => tm_at "non"))
  | (refine' Go.freeB (by assumption) ?z0 ?z1; (case z0 => tm_at "ne"); (case z1 => tm_at "non"))
  | fail)
local macro_rules | `(tactic| tm_at "same") => `(tactic| first
  | (refine' Go.Same.own ?z0 ?z1 (by assumption); (case z0 => tm_at "same"); (case z1 => tm_at "non"))
  | fail)
local macro_rules | `(tactic| tm_at "same") => `(tactic| first
  | assumption
  | exact Same.refl _
  | (refine' Same.trans ?z0 (by assumption); (case z0 => tm_at "same"))
  | fail)
local macro_rules | `(tactic| tm_at "but") => `(tactic| first
  | (refine' Go.But.trans ?z0 (Go.sb (by assumption)); (case z0 => tm_at "but"))
  | (refine' Go.But.own ?z0 ?z1 (by assumption); (case z0 => tm_at "but"); (case z1 => tm_at "non"))
  | fail)
local macro_rules | `(tactic| tm_at "but") => `(tactic| first
  | assumption
  | exact Go.But.refl
  | (refine' Go.But.trans ?z0 (by assumption); (case z0 => tm_at "but"))
  | fail)
local macro_rules | `(tactic| tm_at "set") => `(tactic| (first | (simp only [Int.reduceToNat, List.set_cons_succ, List.set_cons_zero, List.cons_append, List.nil_append]; (first | done | rfl)) | rfl))
local macro_rules | `(tactic| tm_at "side") => `(tactic| first
  | exact .inl ⟨by omega, by omega⟩
  | (show (0 : Int) < _; omega)
  | exact Nat.le_of_ble_eq_true rfl
  | fail)
local macro_rules | `(tactic| tm_at "side") => `(tactic| first
  | (unfold CDiv; omega)
  | (unfold CPow; omega)
  | exact .inr ⟨by omega, by omega⟩
  | fail)
local macro_rules | `(tactic| tm_at "side") => `(tactic| first
  | assumption
  | omega
  | (unfold CMul; omega)
  | fail)
local macro_rules | `(tactic| tm_at "go1") => `(tactic| first
  | ((with_reducible refine' Go.wb ?_ ?_) <;> intro _)
  | fail)
local macro_rules | `(tactic| tm_at "go1") => `(tactic| first
  | tm_at "sp"
  | ((with_reducible refine' Go.wayT ?e ?_); (case e => exact rfl))
  | ((with_reducible refine' Go.wayF ?e ?_); (case e => exact rfl))
  | fail)
local macro_rules | `(tactic| tm_at "go1") => `(tactic| first
  | ((with_reducible refine' Go.wayT ?e ?_); (case e => first | assumption | (simp only [Bool.or_false, Bool.or_true, Bool.false_or, Bool.true_or, Bool.and_false, Bool.and_true, Bool.false_and, Bool.true_and, Bool.not_false, Bool.not_true, decide_true, decide_false, reduceCtorEq, eq_self, not_true_eq_false, not_false_eq_true]; done)))
  | ((with_reducible refine' Go.wayF ?e ?_); (case e => first | assumption | (simp only [Bool.or_false, Bool.or_true, Bool.false_or, Bool.true_or, Bool.and_false, Bool.and_true, Bool.false_and, Bool.true_and, Bool.not_false, Bool.not_true, decide_true, decide_false, reduceCtorEq, eq_self, not_true_eq_false, not_false_eq_true]; done)))
  | ((with_reducible refine' Go.wd ?_ ?_) <;> intro _ <;> (try (exfalso; omega; done)))
  | fail)
local macro_rules | `(tactic| tm_at "go1") => `(tactic| first
  | with_reducible refine Go.wn ?_
  | with_reducible refine Go.wT ?_
  | with_reducible refine Go.wF ?_
  | fail)
local macro_rules | `(tactic| tm_at "go1") => `(tactic| first
  | with_reducible refine Go.gnil ?_
  | with_reducible refine Go.eqB ?_
  | with_reducible refine Go.neB ?_
  | fail)
local macro_rules | `(tactic| tm_at "go1") => `(tactic| first
  | ((with_reducible refine' Go.par33 ?h ?_); (case h => tm_at "set"))
  | ((with_reducible refine' Go.gtup ?h ?l ?_); (case h => tm_at "hpT"); (case l => rfl))
  | with_reducible refine Go.gcons ?_
  | fail)
local macro_rules | `(tactic| tm_at "go1") => `(tactic| first
  | with_reducible refine Go.par ?_
  | ((with_reducible refine' Go.par2 ?h ?_); (case h => tm_at "set"))
  | with_reducible refine Go.par3 ?_
  | fail)
local macro_rules | `(tactic| tm_at "go1") => `(tactic| first
  | with_reducible refine Go.brk ?_
  | with_reducible refine Go.cont ?_
  | with_reducible refine Go.retN ?_
  | fail)
local macro_rules | `(tactic| tm_at "go1") => `(tactic| first
  | with_reducible refine Go.notN ?_
  | with_reducible refine Go.un ?_
  | with_reducible refine Go.u1 ?_
  | fail)
local macro_rules | `(tactic| tm_at "go1") => `(tactic| first
  | ((with_reducible refine' Go.slT ?h ?w ?e ?_); (case h => tm_at "hpT"); (case w => first | exact fun h => Nat.ne_of_beq_eq_false rfl h.2 | exact fun h => Nat.ne_of_beq_eq_false rfl h.1); (case e => rfl))
  | ((with_reducible refine' Go.allL ?h ?_); (case h => tm_at "hpL"))
  | ((with_reducible refine' Go.anyL ?h ?_); (case h => tm_at "hpL"))
  | fail)
local macro_rules | `(tactic| tm_at "go1") => `(tactic| first
  | with_reducible refine Go.star ?_
  | ((with_reducible refine' Go.isStT ?h ?_); (case h => tm_at "hpT"))
  | ((with_reducible refine' Go.isStL ?h ?_); (case h => tm_at "hpL"))
  | fail)
local macro_rules | `(tactic| tm_at "go1") => `(tactic| first
  | ((with_reducible refine' Go.ixS ?h ?g ?_); (case h => first | assumption | exact Go.le_line (by omega) | exact (show Array.size _ ≤ _ by decide +kernel)); (case g => tm_at "idx"))
  | ((with_reducible refine' Go.ixSm ?h ?g ?f ?_); (case h => first | assumption | exact Go.le_line (by omega) | exact (show Array.size _ ≤ _ by decide +kernel)); (case g => omega); (case f => omega); intro _ _)
  | ((with_reducible refine' Go.slS ?h ?_); (case h => first | assumption | exact Go.le_line (by omega)))
  | fail)
local macro_rules | `(tactic| tm_at "go1") => `(tactic| first
  | ((with_reducible refine' Go.rep ?h ?h1 ?h2 ?h3 ?e ?_); (case h => tm_at "hpO"); (case h1 => omega); (case h2 => omega); (case h3 => exact Nat.le_of_ble_eq_true rfl); (case e => rfl))
  | ((with_reducible refine' Go.cat ?h1 ?h2 ?h3 ?e ?_); (case h1 => tm_at "hpO"); (case h2 => tm_at "hpO"); (case h3 => exact Nat.le_of_ble_eq_true rfl); (case e => tm_at "set"))
  | ((with_reducible refine' Go.addS ?h ?_); (case h => first | assumption | exact Go.le_line (by omega) | (refine' Go.le_line (Nat.le_trans (Nat.add_le_add ?a ?b) ?c); (case a => tm_at "szs"); (case b => tm_at "szs"); (case c => exact Nat.le_of_ble_eq_true rfl))))
  | fail)
local macro_rules | `(tactic| tm_at "go1") => `(tactic| first
  | with_reducible refine Go.isN ?_
  | with_reducible refine Go.callN ?_
  | ((with_reducible refine' Go.okN ?h1 ?h2 ?e ?_); (case h1 => rfl); (case h2 => rfl); (case e => (simp only [List.nil_append, List.cons_append, List.getD_cons_zero, List.getD_cons_succ]; (first | done | rfl))))
  | fail)
local macro_rules | `(tactic| tm_at "go1") => `(tactic| first
  | with_reducible refine Go.notV ?_
  | with_reducible refine Go.ife ?_
  | with_reducible refine Go.chain ?_
  | fail)
local macro_rules | `(tactic| tm_at "go1") => `(tactic| first
  | ((with_reducible refine' Go.slL ?h ?e ?_); (case h => tm_at "hpL"); (case e => first | rfl))
  | with_reducible refine Go.andV ?_
  | with_reducible refine Go.orV ?_
  | fail)
local macro_rules | `(tactic| tm_at "go1") => `(tactic| first
  | with_reducible refine Go.noPart ?_
  | with_reducible refine Go.part ?_
  | with_reducible refine Go.isI ?_
  | fail)
local macro_rules | `(tactic| tm_at "go1") => `(tactic| first
  | with_reducible refine Go.tup ?_
  | ((with_reducible refine And.intro ?l ?_); (case l => first | exact Nat.le_of_ble_eq_true rfl | exact (rfl : (_ : L2.St) = _)))
  | with_reducible refine Go.sl ?_
  | fail)
local macro_rules | `(tactic| tm_at "go1") => `(tactic| first
  | ((with_reducible refine' Go.hasL ?h ?_); (case h => tm_at "hpL"))
  | ((with_reducible refine' Go.hasT ?h ?_); (case h => tm_at "hpT"))
  | with_reducible refine Go.lst ?_
  | fail)
local macro_rules | `(tactic| tm_at "go1") => `(tactic| first
  | with_reducible refine Go.is2 ?_
  | ((with_reducible refine' Go.r2 ?h ?_); (case h => omega))
  | ((with_reducible refine' Go.r1 ?h1 ?h2 ?_); (case h1 => omega); (case h2 => omega))
  | fail)
local macro_rules | `(tactic| tm_at "go1") => `(tactic| first
  | with_reducible refine Go.atR ?_
  | with_reducible refine Go.is1 ?_
  | with_reducible refine Go.itR2 ?_
  | fail)
local macro_rules | `(tactic| tm_at "go1") => `(tactic| first
  | with_reducible refine Go.itL ?_
  | with_reducible refine Go.itT ?_
  | with_reducible refine Go.itR ?_
  | fail)
local macro_rules | `(tactic| tm_at "go1") => `(tactic| first
  | ((with_reducible refine' Go.zT ?h1 ?h2 ?_); (case h1 => tm_at "hpT"); (case h2 => tm_at "hpT"))
  | with_reducible refine Go.lc ?_
  | with_reducible refine Go.yes ?_
  | fail)
local macro_rules | `(tactic| tm_at "go1") => `(tactic| first
  | with_reducible refine Go.forr ?_
  | with_reducible refine Go.itZ ?_
  | ((with_reducible refine' Go.zL ?h1 ?h2 ?_); (case h1 => tm_at "hpL"); (case h2 => tm_at "hpL"))
  | fail)
local macro_rules | `(tactic| tm_at "go1") => `(tactic| first
  | ((with_reducible refine' Go.setL ?h ?g ?e ?_); (case h => tm_at "hpO"); (case g => tm_at "ixn"); (case e => tm_at "set"))
  | ((with_reducible refine' Go.wr ?_); intro _ _ _)
  | ((with_reducible refine' Go.new ?_); intro p' H' n' _ _; (try have := Bag.ne (by tm_at "bag") n'); (try have := Bag.nel (by tm_at "bag") n'))
  | fail)
local macro_rules | `(tactic| tm_at "go1") => `(tactic| first
  | with_reducible refine Go.next ?_
  | ((with_reducible refine' Go.name ?h ?_); (case h => tm_at "set"))
  | with_reducible refine Go.sub ?_
  | fail)
local macro_rules | `(tactic| tm_at "go1") => `(tactic| first
  | with_reducible refine Go.isBl ?_
  | with_reducible refine Go.ret ?_
  | with_reducible refine Go.drop ?_
  | fail)
local macro_rules | `(tactic| tm_at "go1") => `(tactic| first
  | with_reducible refine Go.and ?_
  | with_reducible refine Go.or ?_
  | with_reducible refine Go.not ?_
  | fail)
local macro_rules | `(tactic| tm_at "go1") => `(tactic| first
  | with_reducible refine Go.ifS ?_
  | with_reducible refine Go.test ?_
  | with_reducible refine Go.tb ?_
  | fail)
local macro_rules | `(tactic| tm_at "go1") => `(tactic| first
  | with_reducible refine Go.neI ?_
  | with_reducible refine Go.eqS ?_
  | with_reducible refine Go.neS ?_
  | fail)
local macro_rules | `(tactic| tm_at "go1") => `(tactic| first
  | ((with_reducible refine' Go.listT ?h ?_); (case h => tm_at "hpT"))
  | ((with_reducible refine' Go.lenS ?h ?_); (case h => first | assumption | exact Go.le_line (by omega)))
  | with_reducible refine Go.eqI ?_
  | fail)
local macro_rules | `(tactic| tm_at "go1") => `(tactic| first
  | ((with_reducible refine' Go.lenL ?h ?_); (case h => tm_at "hpL"))
  | ((with_reducible refine' Go.lenT ?h ?_); (case h => tm_at "hpT"))
  | ((with_reducible refine' Go.listL ?h ?_); (case h => tm_at "hpL"))
  | fail)
local macro_rules | `(tactic| tm_at "go1") => `(tactic| first
  | with_reducible refine Go.call ?_
  | with_reducible refine Go.intI ?_
  | ((with_reducible refine Go.absI ?_); intro _ _ _)
  | fail)
local macro_rules | `(tactic| tm_at "go1") => `(tactic| first
  | with_reducible refine Go.cb ?_
  | with_reducible refine Go.cons ?_
  | with_reducible refine Go.nil ?_
  | fail)
local macro_rules | `(tactic| tm_at "go1") => `(tactic| first
  | ((with_reducible refine' Go.ixL ?h ?g ?_); (case h => tm_at "hpL"); (case g => tm_at "idx"))
  | ((with_reducible refine' Go.ixT ?h ?g ?_); (case h => tm_at "hpT"); (case g => tm_at "idx"))
  | ((with_reducible refine' Go.i1 ?h ?_); (case h => tm_at "side"))
  | fail)
local macro_rules | `(tactic| tm_at "go1") => `(tactic| first
  | with_reducible refine Go.cst ?_
  | ((with_reducible refine' Go.var ?v ?_); (case v => rfl))
  | with_reducible refine Go.i0 ?_
  | fail)
local macro_rules | `(tactic| tm_at "go1") => `(tactic| first
  | with_reducible refine Go.seq ?_
  | with_reducible refine Go.asg ?_
  | with_reducible refine Go.op ?_
  | fail)
local macro_rules | `(tactic| tm_at "wipe") => `(tactic| (simp only [List.map, wipe, List.set_cons_succ, List.set_cons_zero]; (first | done | rfl)))
local macro_rules | `(tactic| tm_at "lcEnd") => `(tactic| ((with_reducible refine' Go.lcEnd ?h ?l ?_); (case h => tm_at "hpO"); (case l => (first | omega | (refine Go.lt_line ?_; simp only [List.length_map, List.length_replicate]; omega) | (refine Go.lt_line ?_; omega))); intro _ _ _))
local macro_rules | `(tactic| tm_at "tru") => `(tactic| refine Go.bE (c := true) (by simp) ?_)
local macro_rules | `(tactic| tm_at "go") => `(tactic| repeat' (tm_at "go1"))

theorem cut_ints (ns : List Int) (k : Nat) : cutV (ns.map V.int) none (some (k : Int)) = (ns.take k).map V.int := by
  unfold cutV
  rw [HT.sIx_none, HT.sIx_nat, List.drop_zero, Nat.sub_zero, List.map_take]
  by_cases h : k ≤ (ns.map V.int).length
  · rw [Nat.min_eq_left h]
  · rw [Nat.min_eq_right (by omega), List.take_length, List.take_of_length_le (by omega)]
theorem int_of_map {ns : List Int} {i : Nat} {y : V} (hi : (ns.map V.int)[i]? = some y) : ∃ u, y = V.int u := by
  rw [List.getElem?_map] at hi
  cases e : ns[i]? with
  | none => rw [e] at hi; cases hi
  | some u => rw [e] at hi; exact ⟨u, (Option.some.inj hi).symm⟩
theorem mem_at {α : Type} {xs : List α} {d : Int} (h0 : 0 ≤ d) (h1 : d < xs.length) : ∃ v, atI xs d = some v ∧ v ∈ xs := by
  obtain ⟨j, rfl⟩ : ∃ j : Nat, d = (j : Int) := ⟨d.toNat, by omega⟩
  have hj : j < xs.length := by omega
  exact ⟨xs[j], atI_nat (List.getElem?_eq_getElem hj), List.getElem_mem hj⟩

section
variable {P : Program} {w : World} {K : PySem.W.Frag} {mg : Str → Option Value} {base : Heap} {Z : Fs}
/-! ### _law_bag -/
def sp_law_bag (K : PySem.W.Frag) : Sp := fun vs H Q _ => ∃ (a : Addr) (ns : List Int), vs = [.ref a] ∧ SqL K H a (ns.map V.int) ∧ ns.length ≤ 63 ∧ ∀ (H' : Hp) (b l : Addr), Same H H' → H b = none → H l = none → Bag H' b l → Q (.ref b) H'
theorem ok_law_bag (T : Txt K w mg Z) : FnOk P w K mg base CX0 1 Z.a_law_bag Z.d_law_bag ["_law_script"] (sp_law_bag K) := by
  refine T.F_law_bag.ok sc_law_bag (fun vs H Q E h => ?_) (fun cdv A outer s H vs Q E hr h => ?_)
  · obtain ⟨a, ns, rfl, _⟩ := h
    rfl
  · obtain ⟨a, ns, rfl, hS, hlen, k⟩ := h
    refine ⟨_, (pss_cons (ps_set (i := 1) sc_law_bag.nd rfl (Or.inl rfl) pe_int)
      (pss_cons (ps_for PassesOwn.never rfl (pi_list (pe_slice (sl_list : SlR _ (rSlL K)) (pv 0) po_none (po_some pe_int))) (pg_name (i := 2) sc_law_bag.nd rfl (Or.inl rfl)) (pss_one (ps_set (i := 1) sc_law_bag.nd rfl (Or.inl rfl) (pe_op op_mod (pe_callTy Go.c_int (by rfl) T.n_int boot_int (pa_cons (pe_op op_add (pe_op op_add (pe_op op_mul (pv 1) pe_int) (pe_op op_mul (pe_op op_mod (pe_callTy Go.c_int (by rfl) T.n_int boot_int (pa_cons (pv 2) pa_nil)) pe_int) pe_int)) pe_int) pa_nil)) pe_int))))
      (pss_one (ps_ret (pe_lst (pa_cons (pe_callTy Go.c_list (by rfl) T.n_list boot_list (pa_cons (pe_slice (sl_list : SlR _ (rSlL K)) (pv 0) po_none (po_some pe_int)) pa_nil)) (pa_cons pe_int (pa_cons pe_int (pa_cons (pv 1) (pa_cons pe_int pa_nil)))))))))), ?_⟩
    refine ⟨.ref a, rfl, 63, rfl, a, ns.map V.int, rfl, hS, fun p hp => ?_⟩
    have s1 : Same H (upd H p (.lst (cutV (ns.map V.int) none (some 63)))) := Same.new hp
    have ec : cutV (ns.map V.int) none (some 63) = (ns.take 63).map V.int := cut_ints ns 63
    refine ⟨p, rfl, ⟨_, SqL.of upd_same⟩, for_list (K := K) (a := p) (xs := cutV (ns.map V.int) none (some 63)) (fun i σ H' => ∃ (m : Int) (v : Option V), σ = [some (.ref a), some (.int m), v] ∧ Same (upd H p (.lst (cutV (ns.map V.int) none (some 63)))) H' ∧ 0 ≤ m ∧ m < 2147483579)
      ⟨12026, none, rfl, Same.refl _, by decide, by decide⟩ (fun i σ H' _ ⟨_, _, _, s2, _⟩ => SqL.of (s2 _ _ upd_same)) ?_ ?_⟩
    · rintro i y σ H' hi ⟨m, v, rfl, s2, h0, h1⟩
      rw [ec] at hi
      obtain ⟨u, rfl⟩ := int_of_map hi
      tm_at "go"
      exact ⟨_, _, rfl, s2, Int.emod_nonneg _ (by decide), Int.emod_lt_of_pos _ (by decide)⟩
    · rintro σ H' ⟨m, v, rfl, s2, h0, h1⟩
      refine ⟨.ref a, rfl, 63, rfl, a, ns.map V.int, rfl, (s1.trans s2).seq hS, fun q hq => ⟨q, _, rfl, .inl (SqL.of upd_same), fun l hl => ⟨_, rfl, (by show 5 ≤ sizeLine; decide), fun b hb => ?_⟩⟩⟩
      have nlb : l ≠ b := fun e => by
        rw [← e, upd_same] at hb
        cases hb
      have s3 := ((s1.trans s2).trans (Same.new (o := .lst (cutV (ns.map V.int) none (some 63))) hq)).trans (Same.new (o := .lst (cutV (ns.map V.int) none (some 63))) hl)
      refine k _ b l (s3.trans (Same.new hb)) (s3.free hb) (((s1.trans s2).trans (Same.new (o := .lst (cutV (ns.map V.int) none (some 63))) hq)).free hl) ⟨ns.take 63, 0, 0, m, 0, upd_same, ?_, nlb, ?_, by decide, h0, by omega⟩
      · rw [upd_ne nlb, upd_same, ec]
      · rw [List.length_take]
        omega
/-! ### _law_draw -/
def sp_law_draw : Sp := fun vs H Q _ => ∃ (b l : Addr) (d : Int), vs = [.ref b, .int d] ∧ Bag H b l ∧ 0 < d ∧ d < 1073741824 ∧ ∀ (H' : Hp) (v : Int), Stp b H H' → Bag H' b l → 0 ≤ v → v < d → Q (.int v) H'
theorem i_draw {H : Hp} {Q : VK} {E : XK} {b l : Addr} {d : Int} (hB : Bag H b l) (h0 : 0 < d) (h1 : d < 1073741824) (q : ∀ (H' : Hp) (v : Int), Stp b H H' → Bag H' b l → 0 ≤ v → v < d → Q (.int v) H') : sp_law_draw [.ref b, .int d] H Q E := ⟨b, l, d, rfl, hB, h0, h1, q⟩
theorem ok_law_draw (T : Txt K w mg Z) : FnOk P w K mg base CX0 1 Z.a_law_draw Z.d_law_draw ["_law_bag_here", "_law_sides"] sp_law_draw := by
  refine T.F_law_draw.ok sc_law_draw (fun vs H Q E h => ?_) (fun cdv A outer s H vs Q E hr h => ?_)
  · obtain ⟨b, l, d, rfl, _⟩ := h
    rfl
  · obtain ⟨b, l, d, rfl, ⟨ns, i, r, m, n, hb, hl, nlb, hlen, r0, m0, m1⟩, d0, d1, k⟩ := h
    refine ⟨_, (pss_cons (ps_asg (pe_op op_add (pe_ix (ix_list : IxR _ (rIxL K)) (pv 0) pe_int (fun _ _ => rfl)) pe_int) (pg_sub (pv 0) pe_int set_list))
      (C8.pss_cut (ps_if (PW.pt (pw_and (pt_cmpR op_eq (pe_ix (ix_list : IxR _ (rIxL K)) (pv 0) pe_int (fun _ _ => rfl)) pe_int (nomark _)) (pw_and1 (pt_cmpR op_lt (pe_ix (ix_list : IxR _ (rIxL K)) (pv 0) pe_int (fun _ _ => rfl)) (pe_callB (Go.c_len : CallR _ _ (Go.RLen K)) (by rfl) T.n_len boot_len (pa_cons (pe_ix (ix_list : IxR _ (rIxL K)) (pv 0) pe_int (fun _ _ => rfl)) pa_nil)) (nomark _))))) (pss_cons (ps_set (i := 2) sc_law_draw.nd rfl (Or.inl rfl) (pe_callTy Go.c_int (by rfl) T.n_int boot_int (pa_cons (pe_ix (ix_list : IxR _ (rIxL K)) (pe_ix (ix_list : IxR _ (rIxL K)) (pv 0) pe_int (fun _ _ => rfl)) (pe_ix (ix_list : IxR _ (rIxL K)) (pv 0) pe_int (fun _ _ => rfl)) (fun _ _ => rfl)) pa_nil)))
      (pss_cons (ps_asg (pe_op op_add (pe_ix (ix_list : IxR _ (rIxL K)) (pv 0) pe_int (fun _ _ => rfl)) pe_int) (pg_sub (pv 0) pe_int set_list))
      (pss_one (ps_if (pt_cmpR op_ge (pe_callB Go.c_abs (by rfl) T.n_abs boot_abs (pa_cons (pv 2) pa_nil)) (pe_op op_pow pe_int pe_int) (nomark _)) (pss_one (ps_asg (pe_callB Go.c_abs (by rfl) T.n_abs boot_abs (pa_cons (pv 2) pa_nil)) (pg_sub (pv 0) pe_int set_list))) (pss_one (ps_asg (pe_op op_mod (pe_callTy Go.c_int (by rfl) T.n_int boot_int (pa_cons (pe_op op_add (pe_op op_add (pe_op op_mul (pe_ix (ix_list : IxR _ (rIxL K)) (pv 0) pe_int (fun _ _ => rfl)) pe_int) (pe_op op_mul (pe_op op_mod (pe_callTy Go.c_int (by rfl) T.n_int boot_int (pa_cons (pv 2) pa_nil)) pe_int) pe_int)) pe_int) pa_nil)) pe_int) (pg_sub (pv 0) pe_int set_list))))))) pss_nil)
      (pss_cons (ps_if (pt_cmpR op_gt (pe_ix (ix_list : IxR _ (rIxL K)) (pv 0) pe_int (fun _ _ => rfl)) pe_int (nomark _)) (pss_cons (ps_set (i := 3) sc_law_draw.nd rfl (Or.inl rfl) (pe_op op_mod (pe_callTy Go.c_int (by rfl) T.n_int boot_int (pa_cons (pe_ix (ix_list : IxR _ (rIxL K)) (pv 0) pe_int (fun _ _ => rfl)) pa_nil)) (pv 1)))
      (pss_cons (ps_asg (pe_op op_fdiv (pe_ix (ix_list : IxR _ (rIxL K)) (pv 0) pe_int (fun _ _ => rfl)) (pv 1)) (pg_sub (pv 0) pe_int set_list))
      (pss_one (ps_ret (pv 3))))) pss_nil)
      (pss_cons (ps_set (i := 4) sc_law_draw.nd rfl (Or.inl rfl) (pe_callTy Go.c_int (by rfl) T.n_int boot_int (pa_cons (pe_ix (ix_list : IxR _ (rIxL K)) (pv 0) pe_int (fun _ _ => rfl)) pa_nil)))
      (pss_cons (ps_asg (pe_op op_mod (pe_callTy Go.c_int (by rfl) T.n_int boot_int (pa_cons (pe_op op_add (pe_op op_add (pe_op op_add (pe_op op_mul (pe_op op_mul (pv 4) (pv 4)) pe_int) (pe_op op_mul (pv 4) pe_int)) (pe_op op_mul (pe_ix (ix_list : IxR _ (rIxL K)) (pv 0) pe_int (fun _ _ => rfl)) pe_int)) pe_int) pa_nil)) pe_int) (pg_sub (pv 0) pe_int set_list))
      (pss_one (ps_ret (pe_op op_mod (pe_callTy Go.c_int (by rfl) T.n_int boot_int (pa_cons (pe_op op_add (pe_op op_fdiv (pe_ix (ix_list : IxR _ (rIxL K)) (pv 0) pe_int (fun _ _ => rfl)) pe_int) (pe_op op_mul (pe_op op_mod (pe_callTy Go.c_int (by rfl) T.n_int boot_int (pa_cons (pe_ix (ix_list : IxR _ (rIxL K)) (pv 0) pe_int (fun _ _ => rfl)) pa_nil)) pe_int) pe_int)) pa_nil)) (pv 1))))))))), ?_⟩
    rw [show L2.start N_law_draw [V.ref b, V.int d] = [some (V.ref b), some (V.int d), none, none, none] from rfl]
    try dsimp only [cxOf, Cx.nox]
    tm_at "go"
    refine Go.cut (fun σ' H' => ∃ (y2 : Option V), σ' = [some (.ref b), some (.int d), y2, none, none] ∧ Stp b H H' ∧ Bag H' b l) ?_ ?_
    · tm_at "go"
      · rename_i hi
        have hi' : i < ns.length := by
          rw [List.length_map] at hi
          omega
        have gi : atI (ns.map V.int) (i : Int) = some (.int ns[i]) := atI_nat (by rw [List.getElem?_map, List.getElem?_eq_getElem hi']; rfl)
        tm_at "go"
        · exact ⟨_, rfl, by tm_at "but", ns, i + 1, _, _, _, by assumption, by tm_at "hpO", nlb, hlen, by assumption, by omega, by omega⟩
        · exact ⟨_, rfl, by tm_at "but", ns, i + 1, r, _, _, by assumption, by tm_at "hpO", nlb, hlen, r0, by omega, by omega⟩
      · exact ⟨_, rfl, by tm_at "but", ns, i, r, _, _, by assumption, by tm_at "hpO", nlb, hlen, r0, by omega, by omega⟩
      · exact ⟨_, rfl, by tm_at "but", ns, i, r, _, _, by assumption, by tm_at "hpO", nlb, hlen, r0, by omega, by omega⟩
    · rintro σ' H1 ⟨y2, rfl, s1, ns, i, r, m, n, hb1, hl1, nlb, hlen, r0, m0, m1⟩
      tm_at "go"
      · exact k _ _ (by tm_at "but") ⟨ns, i, r / d, m, n, by assumption, by tm_at "hpO", nlb, hlen, Int.ediv_nonneg r0 (Int.le_of_lt d0), m0, m1⟩ (Int.emod_nonneg _ (by omega)) (Int.emod_lt_of_pos _ d0)
      · exact k _ _ (by tm_at "but") ⟨ns, i, r, _, n, by assumption, by tm_at "hpO", nlb, hlen, r0, by omega, by omega⟩ (Int.emod_nonneg _ (by omega)) (Int.emod_lt_of_pos _ d0)
end

/-! ### data: what a value stands for; none of its lists is the bag -/
/-- a text of ordinary size and signs -/
def StrK (z : Str) : Prop := z.cps.size ≤ 100000 ∧ ∀ c ∈ z.cps.toList, c < 1114112
mutual
inductive Dt (K : PySem.W.Frag) (H : Hp) (b : Addr) : V → PyData → Prop
  | non : Dt K H b .non .none
  | bl (k : Bool) : Dt K H b (.bl k) (.bool k)
  | int (i : Int) : Dt K H b (.int i) (.int i)
  | str {z : Str} (h : StrK z) : Dt K H b (.str z) (.str z)
  | lst {a : Addr} {xs : List V} {ds : List PyData} : SqL K H a xs → a ≠ b → xs.length ≤ 100000 → DtA K H b xs ds → Dt K H b (.ref a) (.list ds)
  | tup {a : Addr} {xs : List V} {ds : List PyData} : SqT K H a xs → a ≠ b → xs.length ≤ 100000 → DtA K H b xs ds → Dt K H b (.ref a) (.tuple ds)
inductive DtA (K : PySem.W.Frag) (H : Hp) (b : Addr) : List V → List PyData → Prop
  | nil : DtA K H b [] []
  | cons {v : V} {vs : List V} {d : PyData} {ds : List PyData} : Dt K H b v d → DtA K H b vs ds → DtA K H b (v :: vs) (d :: ds)
end
mutual
theorem Dt.but {K : PySem.W.Frag} {H H' : Hp} {b : Addr} (s : Go.But b H H') : ∀ {v : V} {d : PyData}, Dt K H b v d → Dt K H' b v d
  | _, _, .non => .non
  | _, _, .bl k => .bl k
  | _, _, .int i => .int i
  | _, _, .str h => .str h
  | _, _, .lst h n l r => .lst (Go.lB s n h) n l (DtA.but s r)
  | _, _, .tup h n l r => .tup (Go.tB s n h) n l (DtA.but s r)
theorem DtA.but {K : PySem.W.Frag} {H H' : Hp} {b : Addr} (s : Go.But b H H') : ∀ {v : List V} {d : List PyData}, DtA K H b v d → DtA K H' b v d
  | _, _, .nil => .nil
  | _, _, .cons h r => .cons (Dt.but s h) (DtA.but s r)
end
theorem Dt.same {K : PySem.W.Frag} {H H' : Hp} {b : Addr} (s : Same H H') {v : V} {d : PyData} (h : Dt K H b v d) : Dt K H' b v d := h.but (Go.sb s)
theorem DtA.len {K : PySem.W.Frag} {H : Hp} {b : Addr} : ∀ {xs : List V} {ds : List PyData}, DtA K H b xs ds → xs.length = ds.length
  | _, _, .nil => rfl
  | _, _, .cons _ r => congrArg (· + 1) r.len
theorem DtA.get {K : PySem.W.Frag} {H : Hp} {b : Addr} : ∀ {xs : List V} {ds : List PyData}, DtA K H b xs ds → ∀ {i : Nat} {v : V}, xs[i]? = some v → ∃ d, ds[i]? = some d ∧ Dt K H b v d
  | _, _, .nil, _, _, h => by cases h
  | _, _, .cons h _, 0, _, e => by
    cases e
    exact ⟨_, rfl, h⟩
  | _, _, .cons _ r, i + 1, v, e => r.get (i := i) e
/-! how deep -/
mutual
def dep : PyData → Nat
  | .list xs => depA xs + 1
  | .tuple xs => depA xs + 1
  | _ => 0
def depA : List PyData → Nat
  | [] => 0
  | x :: xs => max (dep x) (depA xs)
end
theorem dep_le : ∀ {xs : List PyData} {i : Nat} {d : PyData}, xs[i]? = some d → dep d ≤ depA xs
  | [], _, _, h => by cases h
  | x :: xs, 0, d, h => by
    cases h
    unfold depA
    exact Nat.le_max_left _ _
  | x :: xs, i + 1, d, h => by
    unfold depA
    exact Nat.le_trans (dep_le (xs := xs) (i := i) h) (Nat.le_max_right _ _)
theorem tyx_l {K : PySem.W.Frag} {H : Hp} {a : Addr} {xs : List V} (h : SqL K H a xs) : TyX K H (.ref a) (.type "list") := by
  rcases h with (h | ⟨o, h⟩) | ⟨o, its, n, h, hc, _⟩
  · exact .base (.lst h)
  · exact .base (.frz h)
  · exact .kList h hc
theorem tyx_t {K : PySem.W.Frag} {H : Hp} {a : Addr} {xs : List V} (h : SqT K H a xs) : TyX K H (.ref a) (.type "tuple") := by
  rcases h with (h | ⟨o, h⟩) | ⟨o, its, n, h, hc, _⟩
  · exact .base (.tup h)
  · exact .fTuple h
  · exact .kTuple h hc
local macro_rules | `(tactic| tm_at "dt") => `(tactic| first
  | exact Dt.int _
  | (refine' Dt.same (by assumption) ?z0; (case z0 => tm_at "dt"))
  | (refine' Dt.but (by assumption) ?z0; (case z0 => tm_at "dt"))
  | fail)
local macro_rules | `(tactic| tm_at "dt") => `(tactic| first
  | assumption
  | exact Dt.non
  | exact Dt.bl _
  | fail)
local macro_rules | `(tactic| tm_at "tyx") => `(tactic| first
  | (refine' tyx_l ?z0; (case z0 => tm_at "hpL"))
  | fail)
local macro_rules | `(tactic| tm_at "tyx") => `(tactic| first
  | exact .base (.int _)
  | exact .base (.str _)
  | (refine' tyx_t ?z0; (case z0 => tm_at "hpT"))
  | fail)
local macro_rules | `(tactic| tm_at "tyx") => `(tactic| first
  | assumption
  | exact .base .non
  | exact .base (.bl _)
  | fail)
local macro_rules | `(tactic| tm_at "kit") => `(tactic| first
  | assumption
  | exact kit_ty (show kitB _ _ = some false by decide +kernel)
  | exact kit_ty (show kitB _ _ = some true by decide +kernel)
  | fail)
local macro_rules | `(tactic| tm_at "kitB") => `(tactic| first
  | exact (show kitB _ _ = some false by decide +kernel)
  | exact (show kitB _ _ = some true by decide +kernel)
  | fail)
theorem kitA2 {K : PySem.W.Frag} {T A B : String} {a b : Bool} (h1 : kitB T A = some a) (h2 : kitB T B = some b) : PySem.W.kitAny K (.type T) [.type A, .type B] = some (a || b) := by
  cases a with
  | true => exact kitAny_cons (b := true) (kit_ty h1) (fun e => nomatch e) fun _ => rfl
  | false =>
    refine kitAny_cons (b := false) (kit_ty h1) (fun _ => ?_) fun e => nomatch e
    cases b with
    | true => exact kitAny_cons (b := true) (kit_ty h2) (fun e => nomatch e) fun _ => rfl
    | false => exact kitAny_cons (b := false) (kit_ty h2) (fun _ => kitAny_nil) fun e => nomatch e
theorem isi2 {K : PySem.W.Frag} {H : Hp} {Q : VK} {x : V} {tp : Addr} {T A B : String} {a b : Bool} (h : H tp = some (.tup [.ty A, .ty B])) (h1 : TyX K H x (.type T)) (h2 : kitB T A = some a) (h3 : kitB T B = some b) (q : Q (.bl (a || b)) H) : rIsiT K [x, .ref tp] H Q :=
  ⟨x, tp, _, _, _, _, rfl, h, .cons (.ty _) (.cons (.ty _) .nil), h1, kitA2 h2 h3, q⟩
local macro_rules | `(tactic| tm_at "sp") => `(tactic| first
  | ((with_reducible refine' Go.isi ?a ?b ?c ?_); (case a => exact .ty _); (case b => tm_at "tyx"); (case c => tm_at "kit"))
  | ((with_reducible refine' isi2 ?a ?b ?c ?d ?_); (case a => tm_at "hpO"); (case b => tm_at "tyx"); (case c => tm_at "kitB"); (case d => tm_at "kitB"))
  | fail)
section
variable {P : Program} {w : World} {K : PySem.W.Frag} {mg : Str → Option Value} {base : Heap} {Z : Fs}
/-! ### _law_same -/
def sp_law_same (K : PySem.W.Frag) (n : Nat) : Sp := fun vs H Q _ => ∃ (x y : V) (b : Addr) (d : PyData), vs = [x, y] ∧ Dt K H b x d ∧ Dt K H b y d ∧ dep d ≤ n ∧ ∀ H' : Hp, Same H H' → Q (.bl true) H'
theorem i_same {n : Nat} {H : Hp} {Q : VK} {E : XK} {x y : V} {b : Addr} {d : PyData} (h1 : Dt K H b x d) (h2 : Dt K H b y d) (h3 : dep d ≤ n) (q : ∀ H' : Hp, Same H H' → Q (.bl true) H') : sp_law_same K n [x, y] H Q E := ⟨x, y, b, d, rfl, h1, h2, h3, q⟩
theorem ok_law_same (T : Txt K w mg Z) : ∀ n : Nat, FnOk P w K mg base CX0 (n + 1) Z.a_law_same Z.d_law_same ["_law_found", "_law_due_here"] (sp_law_same K n)
  | 0 => by
    refine T.F_law_same.ok sc_law_same (fun vs H Q E h => ?_) (fun cdv A outer s H vs Q E hr h => ?_)
    · obtain ⟨x, y, b, d, rfl, _⟩ := h
      rfl
    · obtain ⟨x, y, b, d, rfl, hx, hy, hd, k⟩ := h
      refine ⟨_, (pss_cons (ps_if (PW.pt (pw_or (pt_cmp (pc_isN (pv 1))) (pw_or1 (pt_cmp (pc_isN (pv 0)))))) (pss_one (ps_ret (pe_and (pe_cmp (pc_isN (pv 1)) rfl) (pe_one (pe_cmp (pc_isN (pv 0)) rfl))))) pss_nil)
      (pss_cons (ps_if (pt_val (pe_callB (call_isiT : CallR _ _ (rIsiT K)) (by rfl) T.n_isinstance boot_isinstance (pa_cons (pv 1) (pa_cons (pe_tup (pa_cons (pe_bltn (v := .ty "list") (by rfl) T.n_list boot_list rfl) (pa_cons (pe_bltn (v := .ty "tuple") (by rfl) T.n_tuple boot_tuple rfl) pa_nil))) pa_nil)))) pss_never pss_nil)
      (pss_cons (ps_if (PW.pt (pw_or (pt_cmpR op_ne (pe_callB (call_isi : CallR _ _ (rIsi K)) (by rfl) T.n_isinstance boot_isinstance (pa_cons (pv 1) (pa_cons (pe_bltn (v := .ty "bool") (by rfl) T.n_bool boot_bool rfl) pa_nil))) (pe_callB (call_isi : CallR _ _ (rIsi K)) (by rfl) T.n_isinstance boot_isinstance (pa_cons (pv 0) (pa_cons (pe_bltn (v := .ty "bool") (by rfl) T.n_bool boot_bool rfl) pa_nil))) (nomark _)) (pw_or1 (pt_cmpR op_ne (pe_callB (call_isi : CallR _ _ (rIsi K)) (by rfl) T.n_isinstance boot_isinstance (pa_cons (pv 1) (pa_cons (pe_bltn (v := .ty "int") (by rfl) T.n_int boot_int rfl) pa_nil))) (pe_callB (call_isi : CallR _ _ (rIsi K)) (by rfl) T.n_isinstance boot_isinstance (pa_cons (pv 0) (pa_cons (pe_bltn (v := .ty "int") (by rfl) T.n_int boot_int rfl) pa_nil))) (nomark _))))) (pss_one (ps_ret pe_bl)) pss_nil)
      (pss_one (ps_ret (pe_and (pe_cmpR op_eq (pe_callB (call_isi : CallR _ _ (rIsi K)) (by rfl) T.n_isinstance boot_isinstance (pa_cons (pv 1) (pa_cons (pe_bltn (v := .ty "str") (by rfl) T.n_str boot_str rfl) pa_nil))) (pe_callB (call_isi : CallR _ _ (rIsi K)) (by rfl) T.n_isinstance boot_isinstance (pa_cons (pv 0) (pa_cons (pe_bltn (v := .ty "str") (by rfl) T.n_str boot_str rfl) pa_nil))) (nomark _)) (pe_one (pe_cmpR op_eq (pv 0) (pv 1) (nomark _))))))))), ?_⟩
      rw [show L2.start N_law_same [x, y] = [some (x), some (y), none, none] from rfl]
      try dsimp only [cxOf, Cx.nox]
      cases hx with
      | non => cases hy; tm_at "go"; tm_at "tru"; exact k _ (by tm_at "same")
      | bl v => cases hy; tm_at "go"; tm_at "tru"; exact k _ (by tm_at "same")
      | int v => cases hy; tm_at "go"; tm_at "tru"; exact k _ (by tm_at "same")
      | str v => cases hy; tm_at "go"; tm_at "tru"; exact k _ (by tm_at "same")
      | lst _ _ _ _ => exact absurd hd (by simp [dep])
      | tup _ _ _ _ => exact absurd hd (by simp [dep])
  | n + 1 => by
    have G_law_same : FnOk P w K mg base CX0 (n + 1) Z.a_law_same Z.d_law_same ["_law_found", "_law_due_here"] (sp_law_same K n) := ok_law_same T n
    refine T.F_law_same.ok sc_law_same (fun vs H Q E h => ?_) (fun cdv A outer s H vs Q E hr h => ?_)
    · obtain ⟨x, y, b, d, rfl, _⟩ := h
      rfl
    · obtain ⟨x, y, b, d, rfl, hx, hy, hd, k⟩ := h
      refine ⟨_, (pss_cons (ps_if (PW.pt (pw_or (pt_cmp (pc_isN (pv 1))) (pw_or1 (pt_cmp (pc_isN (pv 0)))))) (pss_one (ps_ret (pe_and (pe_cmp (pc_isN (pv 1)) rfl) (pe_one (pe_cmp (pc_isN (pv 0)) rfl))))) pss_nil)
      (pss_cons (ps_if (pt_val (pe_callB (call_isiT : CallR _ _ (rIsiT K)) (by rfl) T.n_isinstance boot_isinstance (pa_cons (pv 1) (pa_cons (pe_tup (pa_cons (pe_bltn (v := .ty "list") (by rfl) T.n_list boot_list rfl) (pa_cons (pe_bltn (v := .ty "tuple") (by rfl) T.n_tuple boot_tuple rfl) pa_nil))) pa_nil)))) (pss_cons (ps_if (PW.pt (pw_or (pt_cmpR op_ne (pe_callB (call_isi : CallR _ _ (rIsi K)) (by rfl) T.n_isinstance boot_isinstance (pa_cons (pv 0) (pa_cons (pe_bltn (v := .ty "list") (by rfl) T.n_list boot_list rfl) pa_nil))) (pe_callB (call_isi : CallR _ _ (rIsi K)) (by rfl) T.n_isinstance boot_isinstance (pa_cons (pv 1) (pa_cons (pe_bltn (v := .ty "list") (by rfl) T.n_list boot_list rfl) pa_nil))) (nomark _)) (pw_or1 (pt_cmpR op_ne (pe_callB (call_isi : CallR _ _ (rIsi K)) (by rfl) T.n_isinstance boot_isinstance (pa_cons (pv 0) (pa_cons (pe_bltn (v := .ty "tuple") (by rfl) T.n_tuple boot_tuple rfl) pa_nil))) (pe_callB (call_isi : CallR _ _ (rIsi K)) (by rfl) T.n_isinstance boot_isinstance (pa_cons (pv 1) (pa_cons (pe_bltn (v := .ty "tuple") (by rfl) T.n_tuple boot_tuple rfl) pa_nil))) (nomark _))))) (pss_one (ps_ret pe_bl)) pss_nil)
      (pss_one (ps_ret (pe_and (pe_cmpR op_eq (pe_callB (Go.c_len : CallR _ _ (Go.RLen K)) (by rfl) T.n_len boot_len (pa_cons (pv 0) pa_nil)) (pe_callB (Go.c_len : CallR _ _ (Go.RLen K)) (by rfl) T.n_len boot_len (pa_cons (pv 1) pa_nil)) (nomark _)) (pe_one (pe_callB (cr_all rfl) (by rfl) T.n_all boot_all (pa_cons (pe_lc (own := [("_law_a", 2), ("_law_b", 3)]) (g := gTup K 2 (gCons (gName 2) (gCons (gName 3) gNil))) (tt := tYes) rfl sc_law_same.nd (RZ.pi_zipA (by rfl) T.n_zip (pa_cons (pv 0) (pa_cons (pv 1) pa_nil))) (blkOk_by (N := N_law_same) (sc := defScope s_law_same) (by decide +kernel)) (fun _ _ _ _ _ => pg_tup rfl (pgs_cons (pg_name (i := 2) sc_law_same.nd rfl (Or.inl rfl)) (pgs_cons (pg_name (i := 3) sc_law_same.nd rfl (Or.inl rfl)) pgs_nil))) (fun _ _ _ _ _ => pts_nil) (fun _ _ _ _ _ => (pe_call G_law_same (hr.mono (by omega)) (by rfl) T.m_law_same T.F_law_same.kp T.b_law_same .nil pass0 (pa_cons (pv 2) (pa_cons (pv 3) pa_nil))))) pa_nil))))))) pss_nil)
      (pss_cons (ps_if (PW.pt (pw_or (pt_cmpR op_ne (pe_callB (call_isi : CallR _ _ (rIsi K)) (by rfl) T.n_isinstance boot_isinstance (pa_cons (pv 1) (pa_cons (pe_bltn (v := .ty "bool") (by rfl) T.n_bool boot_bool rfl) pa_nil))) (pe_callB (call_isi : CallR _ _ (rIsi K)) (by rfl) T.n_isinstance boot_isinstance (pa_cons (pv 0) (pa_cons (pe_bltn (v := .ty "bool") (by rfl) T.n_bool boot_bool rfl) pa_nil))) (nomark _)) (pw_or1 (pt_cmpR op_ne (pe_callB (call_isi : CallR _ _ (rIsi K)) (by rfl) T.n_isinstance boot_isinstance (pa_cons (pv 1) (pa_cons (pe_bltn (v := .ty "int") (by rfl) T.n_int boot_int rfl) pa_nil))) (pe_callB (call_isi : CallR _ _ (rIsi K)) (by rfl) T.n_isinstance boot_isinstance (pa_cons (pv 0) (pa_cons (pe_bltn (v := .ty "int") (by rfl) T.n_int boot_int rfl) pa_nil))) (nomark _))))) (pss_one (ps_ret pe_bl)) pss_nil)
      (pss_one (ps_ret (pe_and (pe_cmpR op_eq (pe_callB (call_isi : CallR _ _ (rIsi K)) (by rfl) T.n_isinstance boot_isinstance (pa_cons (pv 1) (pa_cons (pe_bltn (v := .ty "str") (by rfl) T.n_str boot_str rfl) pa_nil))) (pe_callB (call_isi : CallR _ _ (rIsi K)) (by rfl) T.n_isinstance boot_isinstance (pa_cons (pv 0) (pa_cons (pe_bltn (v := .ty "str") (by rfl) T.n_str boot_str rfl) pa_nil))) (nomark _)) (pe_one (pe_cmpR op_eq (pv 0) (pv 1) (nomark _))))))))), ?_⟩
      rw [show L2.start N_law_same [x, y] = [some (x), some (y), none, none] from rfl]
      try dsimp only [cxOf, Cx.nox]
      cases hx with
      | non => cases hy; tm_at "go"; tm_at "tru"; exact k _ (by tm_at "same")
      | bl v => cases hy; tm_at "go"; tm_at "tru"; exact k _ (by tm_at "same")
      | int v => cases hy; tm_at "go"; tm_at "tru"; exact k _ (by tm_at "same")
      | str v => cases hy; tm_at "go"; tm_at "tru"; exact k _ (by tm_at "same")
      | @lst a1 xs ds h1 n1 l1 r1 =>
        cases hy with
        | @lst a2 ys _ h2 n2 l2 r2 =>
          have el : xs.length = ys.length := r1.len.trans r2.len.symm
          tm_at "go"
          · refine Go.lc_w (Go.walkZ (K := K) (xs := xs) (ys := ys) (n := xs.length) (by omega)) (fun D i H' => Same H H' ∧ H D = none ∧ i ≤ 100000 ∧ H' D = some (.lst ((List.replicate i true).map V.bl))) (by tm_at "wipe") ?_ ?_ ?_ ?_
            · intro D H2 n0 s2 e2
              exact ⟨by tm_at "same", by tm_at "non", by omega, e2⟩
            · intro D i H2 hi ⟨s2, _, _, e2⟩
              exact ⟨by tm_at "hpL", by tm_at "hpL"⟩
            · rintro D i v H2 H3 hi ⟨s2, nD, li, e2⟩ ⟨T1, u, t, rfl, hT, s3, eT, hu, ht⟩
              obtain ⟨du, e3, hu'⟩ := r1.get hu
              obtain ⟨dt, e4, ht'⟩ := r2.get ht
              rw [e3] at e4
              cases e4
              have hdd : dep du ≤ n := by
                have q := dep_le e3
                simp only [dep] at hd
                omega
              tm_at "go"
              refine i_same (b := b) (d := du) (by tm_at "dt") (by tm_at "dt") hdd fun H5 s5 => ?_
              tm_at "lcEnd"
              refine ⟨by tm_at "same", nD, by omega, ?_⟩
              rename_i e6
              rw [e6, List.replicate_succ', List.map_append]
              rfl
            · rintro D H2 ⟨s2, nD, li, e2⟩
              tm_at "go"
              rw [Go.all_rep]
              exact k _ s2
      | @tup a1 xs ds h1 n1 l1 r1 =>
        cases hy with
        | @tup a2 ys _ h2 n2 l2 r2 =>
          have el : xs.length = ys.length := r1.len.trans r2.len.symm
          tm_at "go"
          · refine Go.lc_w (Go.walkZT (K := K) (xs := xs) (ys := ys) (n := xs.length) (by omega)) (fun D i H' => Same H H' ∧ H D = none ∧ i ≤ 100000 ∧ H' D = some (.lst ((List.replicate i true).map V.bl))) (by tm_at "wipe") ?_ ?_ ?_ ?_
            · intro D H2 n0 s2 e2
              exact ⟨by tm_at "same", by tm_at "non", by omega, e2⟩
            · intro D i H2 hi ⟨s2, _, _, e2⟩
              exact ⟨by tm_at "hpT", by tm_at "hpT"⟩
            · rintro D i v H2 H3 hi ⟨s2, nD, li, e2⟩ ⟨T1, u, t, rfl, hT, s3, eT, hu, ht⟩
              obtain ⟨du, e3, hu'⟩ := r1.get hu
              obtain ⟨dt, e4, ht'⟩ := r2.get ht
              rw [e3] at e4
              cases e4
              have hdd : dep du ≤ n := by
                have q := dep_le e3
                simp only [dep] at hd
                omega
              tm_at "go"
              refine i_same (b := b) (d := du) (by tm_at "dt") (by tm_at "dt") hdd fun H5 s5 => ?_
              tm_at "lcEnd"
              refine ⟨by tm_at "same", nD, by omega, ?_⟩
              rename_i e6
              rw [e6, List.replicate_succ', List.map_append]
              rfl
            · rintro D H2 ⟨s2, nD, li, e2⟩
              tm_at "go"
              rw [Go.all_rep]
              exact k _ s2
end

/-! ### the program's halves -/
def numD (lo hi : Int) : PyData → Bool
  | .int i => decide (lo ≤ i) && decide (i ≤ hi)
  | _ => false
theorem memc {α : Type} {P : α → Prop} {x : α} {l : List α} (h : P x) (t : ∀ y ∈ l, P y) : ∀ y ∈ x :: l, P y := fun y m => by
  rcases List.mem_cons.mp m with e | m
  · rw [e]
    exact h
  · exact t y m
theorem mem0 {α : Type} {P : α → Prop} : ∀ y ∈ ([] : List α), P y := fun _ m => nomatch m
local macro_rules | `(tactic| tm_at "all") => `(tactic| repeat' (first | exact mem0 | refine memc ?_ ?_))
section
variable {P : Program} {w : World} {K : PySem.W.Frag} {mg : Str → Option Value} {base : Heap} {Z : Fs}
def sp_is_number (K : PySem.W.Frag) : Sp := fun vs H Q _ => ∃ (v : V) (lo hi : Int) (b : Addr) (d : PyData), vs = [v, .int lo, .int hi] ∧ Dt K H b v d ∧ ∀ H' : Hp, Same H H' → Q (.bl (numD lo hi d)) H'
theorem i_is_number {H : Hp} {Q : VK} {E : XK} {v : V} {lo hi : Int} {b : Addr} {d : PyData} (h : Dt K H b v d) (q : ∀ H' : Hp, Same H H' → Q (.bl (numD lo hi d)) H') : sp_is_number K [v, .int lo, .int hi] H Q E := ⟨v, lo, hi, b, d, rfl, h, q⟩
theorem ok_is_number (T : Txt K w mg Z) : FnOk P w K mg base CX0 1 Z.a_is_number Z.d_is_number ["value", "least", "most"] (sp_is_number K) := by
  refine T.F_is_number.ok sc_is_number (fun vs H Q E h => ?_) (fun cdv A outer s H vs Q E hr h => ?_)
  · obtain ⟨v, lo, hi, b, d, rfl, _⟩ := h
    rfl
  · obtain ⟨v, lo, hi, b, d, rfl, h, k⟩ := h
    refine ⟨_, (pss_cons (ps_if (PW.pt (pw_or (pt_val (pe_callB (call_isi : CallR _ _ (rIsi K)) (by rfl) T.n_isinstance boot_isinstance (pa_cons (pv 0) (pa_cons (pe_bltn (v := .ty "bool") (by rfl) T.n_bool boot_bool rfl) pa_nil)))) (pw_or1 (pt_not (pt_val (pe_callB (call_isi : CallR _ _ (rIsi K)) (by rfl) T.n_isinstance boot_isinstance (pa_cons (pv 0) (pa_cons (pe_bltn (v := .ty "int") (by rfl) T.n_int boot_int rfl) pa_nil)))))))) (pss_one (ps_ret pe_bl)) pss_nil)
      (pss_one (ps_ret (pe_chain op_le op_le (pv 1) (pv 0) (pv 2))))), ?_⟩
    rw [show L2.start N_is_number [v, V.int lo, V.int hi] = [some (v), some (V.int lo), some (V.int hi)] from rfl]
    try dsimp only [cxOf, Cx.nox]
    cases h <;> tm_at "go"
    all_goals (refine Go.bE ?_ (k _ (Same.refl _)); simp [numD, *])
theorem ok_law_within (T : Txt K w mg Z) : FnOk P w K mg base CX0 1 Z.a_law_within Z.d_law_within ["_law_thing", "_law_low_y", "_law_high_y"] (sp_is_number K) := by
  refine T.F_law_within.ok sc_law_within (fun vs H Q E h => ?_) (fun cdv A outer s H vs Q E hr h => ?_)
  · obtain ⟨v, lo, hi, b, d, rfl, _⟩ := h
    rfl
  · obtain ⟨v, lo, hi, b, d, rfl, h, k⟩ := h
    refine ⟨_, (pss_one (ps_ret (pe_and (pe_callB (call_isi : CallR _ _ (rIsi K)) (by rfl) T.n_isinstance boot_isinstance (pa_cons (pv 0) (pa_cons (pe_bltn (v := .ty "int") (by rfl) T.n_int boot_int rfl) pa_nil))) (pe_and (pe_not (pe_callB (call_isi : CallR _ _ (rIsi K)) (by rfl) T.n_isinstance boot_isinstance (pa_cons (pv 0) (pa_cons (pe_bltn (v := .ty "bool") (by rfl) T.n_bool boot_bool rfl) pa_nil)))) (pe_and (pe_cmpR op_le (pv 1) (pv 0) (nomark _)) (pe_one (pe_cmpR op_le (pv 0) (pv 2) (nomark _)))))))), ?_⟩
    rw [show L2.start N_law_within [v, V.int lo, V.int hi] = [some (v), some (V.int lo), some (V.int hi)] from rfl]
    try dsimp only [cxOf, Cx.nox]
    cases h <;> tm_at "go"
    all_goals (refine Go.bE ?_ (k _ (Same.refl _)); simp [numD, *])
end
local macro_rules | `(tactic| tm_at "sp") => `(tactic| first
  | ((with_reducible refine' i_draw ?b ?x ?y ?_); (case b => tm_at "bag"); (case x => (first | omega | decide)); (case y => (first | omega | decide)); intro _ _ _ _ _ _)
  | ((with_reducible refine' i_is_number ?h ?_); (case h => tm_at "dt"); intro _ _)
  | fail)
section
variable {P : Program} {w : World} {K : PySem.W.Frag} {mg : Str → Option Value} {base : Heap} {Z : Fs}
def sp_law_of (K : PySem.W.Frag) : Sp := fun vs H Q _ => ∃ (b l a : Addr) (xs : List V), vs = [.ref b, .ref a] ∧ Bag H b l ∧ SqL K H a xs ∧ a ≠ b ∧ 0 < xs.length ∧ xs.length ≤ 100000 ∧ ∀ (H' : Hp) (v : V), Stp b H H' → Bag H' b l → v ∈ xs → Q v H'
theorem i_of {H : Hp} {Q : VK} {E : XK} {b l a : Addr} {xs : List V} (hB : Bag H b l) (hx : SqL K H a xs) (ne : a ≠ b) (h0 : 0 < xs.length) (h1 : xs.length ≤ 100000) (q : ∀ (H' : Hp) (v : V), Stp b H H' → Bag H' b l → v ∈ xs → Q v H') : sp_law_of K [.ref b, .ref a] H Q E := ⟨b, l, a, xs, rfl, hB, hx, ne, h0, h1, q⟩
theorem ok_law_of (T : Txt K w mg Z) : FnOk P w K mg base CX0 2 Z.a_law_of Z.d_law_of ["_law_bag_here", "_law_things"] (sp_law_of K) := by
  have G_law_draw := ok_law_draw (P := P) (base := base) T
  refine T.F_law_of.ok sc_law_of (fun vs H Q E h => ?_) (fun cdv A outer s H vs Q E hr h => ?_)
  · obtain ⟨b, l, a, xs, rfl, _⟩ := h
    rfl
  · obtain ⟨b, l, a, xs, rfl, hB, hx, nab, h0, h1, k⟩ := h
    refine ⟨_, (pss_one (ps_ret (pe_ix ix_seq (pv 1) (pe_call G_law_draw (hr.mono (by omega)) (by rfl) T.m_law_draw T.F_law_draw.kp T.b_law_draw .nil pass0 (pa_cons (pv 0) (pa_cons (pe_callB (Go.c_len : CallR _ _ (Go.RLen K)) (by rfl) T.n_len boot_len (pa_cons (pv 1) pa_nil)) pa_nil))) (fun _ _ => rfl)))), ?_⟩
    rw [show L2.start N_law_of [V.ref b, V.ref a] = [some (V.ref b), some (V.ref a)] from rfl]
    try dsimp only [cxOf, Cx.nox]
    tm_at "go"
    rename_i v0 v1
    refine .inl (Go.ixLm (by tm_at "hpL") v0 v1 fun v hm => ?_)
    tm_at "go"
    exact k _ _ (by tm_at "but") (by tm_at "bag") hm
end

open Lend LamX NdefX SupX
/-! ### errors of the program: what the written part says, their kinds -/
def FL : Str := PySem.Challenge.pw_leastimage_k05_pieces_refused.main.file
/-- an error's class: what the written part says -/
structure ErrV (K : PySem.W.Frag) (mg : Str → Option Value) (x qual : Str) (st : Stmt) (C f : Addr) (fd : FuncData) : Prop where
  mgx : mg x = some (.ref C)
  oex : OexC K C
  ini : PySem.W.findIn K (.ref C) "__init__" = some (some (.ref f))
  tI : PySem.W.typeIn K (.ref f) = some (.type "function")
  sup : ∃ oc od osl dV kV doc pm an cda ct cc bmB, K.lookup f = some ⟨oc, od, .func fd, osl⟩ ∧ fd = PySem.W.ksFn "__init__" qual (defArgs st) (defBody st) (defScope st) dV kV doc pm an (.ref cda) ct cc ∧ SupF FL K mg "ValueError" "ValueError.__init__" "ValueError.__new__" bmB C f cc cda (defArgs st) qual ∧ ExcBaseFacts "ValueError" "ValueError.__new__" "ValueError.__init__" bmB
structure EKind where
  D : Addr
  code : Str
  attrs : List Str
def errD (k : EKind) (xs : List V) : List (Str × V) := ("code", .str k.code) :: (k.attrs.zip xs).reverse
structure KindOk (K : PySem.W.Frag) (mg : Str → Option Value) (k : EKind) : Prop where
  xf : XfC K k.D
  code : PySem.W.findIn K (.ref k.D) "code" = some none
  attr : ∀ a ∈ k.attrs, PySem.W.findIn K (.ref k.D) a = some none
  exm : ∃ cI cM, mg "ImageError" = some (.ref cI) ∧ mg "Missing" = some (.ref cM) ∧ PySem.W.exmAny K (.ref k.D) [.ref cI, .ref cM] = some true
/-- a class of errors: all of it -/
structure EC (K : PySem.W.Frag) (mg : Str → Option Value) (x qual : Str) (st : Stmt) (k : EKind) (f : Addr) (fd : FuncData) : Prop where
  V : ErrV K mg x qual st k.D f fd
  b : L2.Binds K fd ("self" :: k.attrs) []
  ok : KindOk K mg k
def sp_err1 (K : PySem.W.Frag) (D : Addr) (attr code : Str) : Sp := fun vs H Q _ => ∃ (a : Addr) (x : V) (c : Nat), vs = [.ref a, x] ∧ H a = some (exo a D none) ∧ Shows K H x c ∧ c ≤ 5000 ∧
  ∀ dx : Addr, H dx = none → dx ≠ a → Q .non (upd (upd (upd H dx (exd dx [(attr, x)])) a (exo a D (some dx))) dx (exd dx [("code", .str code), (attr, x)]))
def sp_err0 (K : PySem.W.Frag) (D : Addr) (code : Str) : Sp := fun vs H Q _ => ∃ a : Addr, vs = [.ref a] ∧ H a = some (exo a D none) ∧ ∀ dx : Addr, H dx = none → dx ≠ a → Q .non (upd (upd H dx (exd dx [("code", .str code)])) a (exo a D (some dx)))
/-- the error stands at d -/
structure ErrAt (H H' : Hp) (d : Addr) (k : EKind) (xs : List V) : Prop where
  new : H d = none
  same : Same H H'
  at_ : H' d = some (.xd (errD k xs))
theorem Shows.same {K : PySem.W.Frag} {H H' : Hp} {x : V} {c : Nat} (s : Same H H') (h : Shows K H x c) : Shows K H' x c := by
  rcases h with h | ⟨a, xs, ts, e, h | h, f, l⟩
  · exact .inl h
  · exact .inr ⟨a, xs, ts, e, .inl (Go.tS s h), f, l⟩
  · exact .inr ⟨a, xs, ts, e, .inr (Go.lS s h), f, l⟩
theorem mk_err {K : PySem.W.Frag} {D : Addr} {attr code : Str} {i c : Nat} {σ : L2.St} {G : Hp} {x : V} {E : XK} (hv : σ[i]? = some (some x)) (hs : Shows K G x c) (hc : c ≤ 5000) (hE : ∀ d G', ErrAt G G' d ⟨D, code, [attr]⟩ [x] → E (.ref D) (some d) G') :
    tMkO D (sp_err1 K D attr code) [] (tCons (tVar i) tNil) σ G E := by
  refine ⟨x, hv, (by show 1 ≤ 1000; decide), fun a ha => ⟨a, x, c, rfl, upd_same, Shows.same (Same.new ha) hs, hc, fun dx hd hn => ?_⟩⟩
  have gd : G dx = none := by
    rw [upd_ne hn] at hd
    exact hd
  refine ⟨rfl, dx, _, by rw [upd_ne (Ne.symm hn), upd_same], upd_same, gd, hE dx _ ⟨gd, fun b o e => ?_, upd_same⟩⟩
  have b1 : b ≠ dx := ne_of_none e gd
  have b2 : b ≠ a := ne_of_none e ha
  rw [upd_ne b1, del_ne b2, upd_ne b1, upd_ne b2, upd_ne b1, upd_ne b2]
  exact e
theorem mk_errC {K : PySem.W.Frag} {D : Addr} {attr code : Str} {c : Nat} {σ : L2.St} {G : Hp} {x : V} {E : XK} (hs : Shows K G x c) (hc : c ≤ 5000) (hE : ∀ d G', ErrAt G G' d ⟨D, code, [attr]⟩ [x] → E (.ref D) (some d) G') :
    tMkO D (sp_err1 K D attr code) [] (tCons (tC x) tNil) σ G E := by
  have h : tMkO D (sp_err1 K D attr code) [] (tCons (tVar 0) tNil) [some x] G E := mk_err rfl hs hc hE
  obtain ⟨v, e, h⟩ := h
  cases e
  exact h
theorem mk_err0 {K : PySem.W.Frag} {D : Addr} {code : Str} {σ : L2.St} {G : Hp} {E : XK} (hE : ∀ d G', ErrAt G G' d ⟨D, code, []⟩ [] → E (.ref D) (some d) G') : tMkO D (sp_err0 K D code) [] tNil σ G E := by
  refine ⟨(by show 0 ≤ 1000; decide), fun a ha => ⟨a, rfl, upd_same, fun dx hd hn => ?_⟩⟩
  have gd : G dx = none := by
    rw [upd_ne hn] at hd
    exact hd
  refine ⟨rfl, dx, _, upd_same, by rw [upd_ne hn, upd_same], gd, hE dx _ ⟨gd, fun b o e => ?_, ?_⟩⟩
  · have b1 : b ≠ dx := ne_of_none e gd
    have b2 : b ≠ a := ne_of_none e ha
    rw [upd_ne b1, del_ne b2, upd_ne b2, upd_ne b1, upd_ne b2]
    exact e
  · exact upd_same
/-! ### the handled error -/
/-- p is an error of the class at C, its dict at d -/
structure ErrP (K : PySem.W.Frag) (H : Hp) (p : Addr × Obj) (C d : Addr) (fs : List (Str × V)) : Prop where
  cls : XfC K C
  at_ : p.2.cls = .ref C ∧ p.2.dict = some d ∧ ∃ vs, p.2.data = .fields vs
  dict : H d = some (.xd fs)
theorem ErrP.same {K : PySem.W.Frag} {H H' : Hp} {p : Addr × Obj} {C d : Addr} {fs : List (Str × V)} (s : Same H H') (h : ErrP K H p C d fs) : ErrP K H' p C d fs := ⟨h.cls, h.at_, s _ _ h.dict⟩
theorem pin {K : PySem.W.Frag} {p : Addr × Obj} {n : Str} {te : TE} {σ : L2.St} {H : Hp} {Q : VK} (q : te σ H fun x H1 => HotP.RPin K p n x H1 Q) : HotP.tPin K p n te σ H Q := q
theorem pin_in {K : PySem.W.Frag} {H : Hp} {p : Addr × Obj} {C d : Addr} {fs : List (Str × V)} {n : Str} {v : V} {Q : VK} (E : ErrP K H p C d fs) (hno : PySem.W.findIn K (.ref C) n = some none) (hl : fs.lookup n = some v) (q : Q v H) : HotP.RPin K p n (.ref p.1) H Q := ⟨rfl, C, d, fs, v, E.cls, hno, E.at_.1, E.at_.2.1, E.at_.2.2, E.dict, hl, q⟩
theorem inLst {K : PySem.W.Frag} {H : Hp} {z : Str} {p : Addr} {xs : List V} {b : Bool} {Q : VK} (h : SqL K H p xs) (f : xs.all flatV = true) (e : inV (.str z) xs = b) (q : Q (.bl b) H) : rIn K false (.str z) (.ref p) H Q := ⟨p, xs, rfl, .inl h, rfl, f, by rw [e]; exact q⟩
local macro_rules | `(tactic| tm_at "err") => `(tactic| first
  | assumption
  | (refine' ErrP.same (by assumption) ?z0; (case z0 => tm_at "err"))
  | fail)
local macro_rules | `(tactic| tm_at "sp") => `(tactic| first
  | with_reducible refine pin ?_
  | ((with_reducible refine' pin_in ?E ?no ?l ?_); (case E => tm_at "err"); (case no => assumption); (case l => rfl))
  | ((with_reducible refine' inLst (b := false) ?h ?f ?e ?_); (case h => tm_at "hpL"); (case f => rfl); (case e => decide +kernel))
  | fail)
def TryE (EK : List EKind) (Q : VK) : XK := fun cls d H' => ∃ k, k ∈ EK ∧ ∃ (xs : List V) (dd : Addr), xs.length = k.attrs.length ∧ cls = .ref k.D ∧ d = some dd ∧ H' dd = some (.xd (errD k xs)) ∧
  ∀ (G : Hp) (u t : Addr), Same H' G → H' u = none → G u = some (.tup xs) → H' t = none → G t = some (.tup [.str k.code, .ref u]) → Q (.ref t) G
def TryQ (Q : VK) : VK := fun v H' => ∀ (G : Hp) (t : Addr), Same H' G → H' t = none → G t = some (.tup [.str "", v]) → Q (.ref t) G
def sp_law_field (K : PySem.W.Frag) (EK : List EKind) : Addr × Obj → Sp := fun p vs H Q _ => ∃ k, k ∈ EK ∧ ∃ (xs : List V) (d : Addr), xs.length = k.attrs.length ∧ vs = [.ref p.1] ∧ ErrP K H p k.D d (errD k xs) ∧ ∀ (H' : Hp) (t : Addr), Same H H' → H t = none → H' t = some (.tup xs) → Q (.ref t) H'
section
variable {P : Program} {w : World} {K : PySem.W.Frag} {mg : Str → Option Value} {base : Heap} {Z : Fs}
def sp_law_try (P : Program) (w : World) (K : PySem.W.Frag) (mg : Str → Option Value) (base : Heap) (EK : List EKind) (k : Nat) : Sp := fun vs H Q _ => ∃ (f : Addr) (fs : List (Addr × HO)) (sp : Hp → VK → XK → Prop), vs = [.ref f] ∧ Lend.AskOk P w K mg base (L2N.CX P w) k f fs sp ∧ (∀ p ∈ fs, H p.1 = some p.2) ∧
  ∀ (Q' : VK) (E' : XK), (∀ v H', TryQ Q v H' → Q' v H') → (∀ cls d H', TryE EK Q cls d H' → E' cls d H') → sp H Q' E'
theorem ok_law_try {EK : List EKind} {cI cM : Addr} {k : Nat} (T : Txt K w mg Z) (hk1 : 1 ≤ k) (EO : ∀ e ∈ EK, KindOk K mg e) (mI : mg "ImageError" = some (.ref cI)) (mM : mg "Missing" = some (.ref cM)) (G_law_field : HotP.FnHP P w K mg base C8.CX0 1 Z.a_law_field Z.d_law_field ["_law_e"] (sp_law_field K EK)) :
    FnOk P w K mg base CX0 (k + 1) Z.a_law_try Z.d_law_try ["_law_ask"] (sp_law_try P w K mg base EK k) := by
  refine T.F_law_try.ok sc_law_try (fun vs H Q E h => ?_) (fun cdv A outer s H vs Q E hr h => ?_)
  · obtain ⟨f, fs, sp, rfl, _⟩ := h
    rfl
  · obtain ⟨f, fs, sp, rfl, ok, hf, q⟩ := h
    have vis0 : Vis (defScope s_law_try) "_law_ask" := .inl (by decide +kernel)
    have vis1 : Vis (defScope s_law_try) "_law_e" := .inl (by decide +kernel)
    refine ⟨_, pss_one (LendN.ps_try_tup (i := 1) (c1 := .ref cI) (c2 := .ref cM)
      (tb := fun W => tRet (tTup (tCons (tC (.str "")) (tCons (LendN.tAskS P w K mg base k 0 W) tNil))))
      (ts := fun a oe cls d D' σ H' => (L2N.Zn cls d oe ∧ ∃ vs, oe.data = .fields vs) → (tRet (tTup (tCons (HotP.tPin K (a, oe) "code" (tVar 1)) (tCons (HotP.tCallHP (a, oe) (sp_law_field K EK) (tCons (tVar 1) tNil)) tNil)))) D' σ H')
      rfl rfl sc_law_try.nd rfl rfl ⟨rfl, by decide, .inl mI⟩ ⟨rfl, by decide, .inl mM⟩ (fun W pn xe tk _ => ?_) (fun a oe cls d pn hz hfd nB => ⟨fun pins s σ H D' I h => ?_⟩)), ?_⟩
    · exact pss_one (ps_ret (pe_tup (pa_cons pe_str (pa_cons (LendN.pe_askS hr tk rfl vis0) pa_nil))))
    · obtain ⟨vs0, hv0⟩ := hfd
      exact (pss_one (ps_ret (pe_tup (pa_cons (HotP.pe_pinf (p := (a, oe)) List.mem_cons_self (pe_var (i := 1) rfl vis1)) (pa_cons (HotP.pe_callHP (k := 1) (p := (a, oe)) G_law_field ⟨(hr.mono hk1).dp, (hr.mono hk1).un⟩ ⟨rfl, vs0, hv0, hz.2.2 vs0 hv0⟩ List.mem_cons_self (by rfl) T.m_law_field T.F_law_field.kp T.b_law_field (pa_cons (pe_var (i := 1) rfl vis1) pa_nil)) pa_nil))))).run pins s σ H D' I (h ⟨hz, vs0, hv0⟩)
    · refine ⟨f, fs, sp, rfl, ok, hf, q _ _ (fun v H' hq => ?_) (fun cls d H' he => ?_)⟩
      · refine ⟨by show 2 ≤ sizeLine; decide, fun t ht => ?_⟩
        exact hq _ t (Same.new ht) ht upd_same
      · obtain ⟨e, he, xs, dd, hl, rfl, rfl, hx, kk⟩ := he
        have eo := EO e he
        have hm : PySem.W.exmAny K (.ref e.D) [.ref cI, .ref cM] = some true := by
          obtain ⟨c1, c2, m1, m2, q⟩ := eo.exm
          rw [mI] at m1
          rw [mM] at m2
          cases m1
          cases m2
          exact q
        refine ⟨hm, fun a oe na ⟨hz, hfd⟩ => ?_⟩
        refine ⟨.ref a, rfl, rfl, e.D, dd, _, .str e.code, eo.xf, eo.code, hz.1, hz.2.1, hfd, hx, rfl, ?_⟩
        refine ⟨.ref a, rfl, e, he, xs, dd, hl, rfl, ⟨eo.xf, ⟨hz.1, hz.2.1, hfd⟩, hx⟩, fun G u s1 nu eu => ?_⟩
        refine ⟨by show 2 ≤ sizeLine; decide, fun t ht => ?_⟩
        exact kk _ u t (s1.trans (Same.new ht)) nu (Same.new ht _ _ eu) (Go.freeS s1 ht) upd_same
end
section
variable {P : Program} {w : World} {K : PySem.W.Frag} {mg : Str → Option Value} {base : Heap} {Z : Fs}
def WhyQ (Q : VK) : VK := fun _ H' => ∀ (G : Hp) (t : Addr), Same H' G → H' t = none → G t = some (.tup [.str "", .non]) → Q (.ref t) G
def sp_law_why (P : Program) (w : World) (K : PySem.W.Frag) (mg : Str → Option Value) (base : Heap) (EK : List EKind) (k : Nat) : Sp := fun vs H Q _ => ∃ (f : Addr) (fs : List (Addr × HO)) (sp : Hp → VK → XK → Prop), vs = [.ref f] ∧ Lend.AskOk P w K mg base (L2N.CX P w) k f fs sp ∧ (∀ p ∈ fs, H p.1 = some p.2) ∧
  ∀ (Q' : VK) (E' : XK), (∀ v H', WhyQ Q v H' → Q' v H') → (∀ cls d H', TryE EK Q cls d H' → E' cls d H') → sp H Q' E'
theorem ok_law_why {EK : List EKind} {cI cM : Addr} {k : Nat} (T : Txt K w mg Z) (hk1 : 1 ≤ k) (EO : ∀ e ∈ EK, KindOk K mg e) (ne0 : ∀ e ∈ EK, e.code ≠ "") (mI : mg "ImageError" = some (.ref cI)) (mM : mg "Missing" = some (.ref cM)) (G_law_field : HotP.FnHP P w K mg base C8.CX0 1 Z.a_law_field Z.d_law_field ["_law_e"] (sp_law_field K EK)) :
    FnOk P w K mg base CX0 (k + 2) Z.a_law_why Z.d_law_why ["_law_ask"] (sp_law_why P w K mg base EK k) := by
  have G_law_try := ok_law_try (P := P) (base := base) (k := k) T hk1 EO mI mM G_law_field
  refine T.F_law_why.ok sc_law_why (fun vs H Q E h => ?_) (fun cdv A outer s H vs Q E hr h => ?_)
  · obtain ⟨f, fs, sp, rfl, _⟩ := h
    rfl
  · obtain ⟨f, fs, sp, rfl, ok, hf, q⟩ := h
    refine ⟨_, (pss_cons (ps_set (i := 1) sc_law_why.nd rfl (Or.inl rfl) (pe_call G_law_try (hr.mono (by omega)) (by rfl) T.m_law_try T.F_law_try.kp T.b_law_try .nil pass0 (pa_cons (pv 0) pa_nil)))
      (pss_one (ps_ret (pe_ifExp (pt_cmpR op_ne (pe_ix (ix_tup : IxR _ (rIxT K)) (pv 1) pe_int (fun _ _ => rfl)) pe_str (nomark _)) (pv 1) (pe_tup (pa_cons pe_str (pa_cons pe_non pa_nil))))))), ?_⟩
    rw [show L2.start N_law_why [V.ref f] = [some (V.ref f), none] from rfl]
    try dsimp only [cxOf, Cx.nox]
    tm_at "go"
    refine ⟨f, fs, sp, rfl, ok, hf, fun Q' E' hQ hE => q Q' E' (fun v H' hw => hQ v H' fun G t s1 nt et => ?_) (fun cls d H' he => hE cls d H' ?_)⟩
    · tm_at "go"
      rename_i pp G2 n2' s2 e2
      exact hw _ _ (s1.trans s2) (Go.freeS s1 n2') e2
    · obtain ⟨e, he, xs, dd, hl, e1, e2, hx, kk⟩ := he
      refine ⟨e, he, xs, dd, hl, e1, e2, hx, fun G u t s1 nu eu nt et => ?_⟩
      tm_at "go"
      all_goals first
        | exact absurd ‹e.code = Str.ofString ""› (ne0 e he)
        | exact kk G u t s1 nu eu nt et
end
section
variable {P : Program} {w : World} {K : PySem.W.Frag} {mg : Str → Option Value} {base : Heap} {Z : Fs}
theorem i_why {EK : List EKind} {f : Addr} {fs : List (Addr × HO)} {sp : Hp → VK → XK → Prop} {k : Nat} {H : Hp} {Q : VK} {E : XK} (ok : Lend.AskOk P w K mg base (L2N.CX P w) k f fs sp) (hf : ∀ p ∈ fs, H p.1 = some p.2) (q : ∀ (Q' : VK) (E' : XK), (∀ v H', WhyQ Q v H' → Q' v H') → (∀ cls d H', TryE EK Q cls d H' → E' cls d H') → sp H Q' E') : sp_law_why P w K mg base EK k [.ref f] H Q E := ⟨f, fs, sp, rfl, ok, hf, q⟩
/-- one of the asked: its function stands, and at any later heap a call of it ends in what R tells -/
structure AskIn (P : Program) (w : World) (K : PySem.W.Frag) (mg : Str → Option Value) (base : Heap) (EK : List EKind) (k : Nat) (H : Hp) (x : V) (R : Hp → V → Prop) : Prop where
  ex : ∃ (f : Addr) (fs : List (Addr × HO)) (sp : Hp → VK → XK → Prop), x = .ref f ∧ Lend.AskOk P w K mg base (L2N.CX P w) k f fs sp ∧ (∀ p ∈ fs, H p.1 = some p.2) ∧
    ∀ (H1 : Hp) (Qk : VK) (Q' : VK) (E' : XK), Same H H1 → (∀ G u, Same H1 G → R G u → Qk u G) → (∀ v H', WhyQ Qk v H' → Q' v H') → (∀ cls d H', TryE EK Qk cls d H' → E' cls d H') → sp H1 Q' E'
  stay : ∀ (G G' : Hp) (u : V), (∀ a ys, G a = some (.tup ys) → G' a = some (.tup ys)) → R G u → R G' u
def sp_law_whys (P : Program) (w : World) (K : PySem.W.Frag) (mg : Str → Option Value) (base : Heap) (EK : List EKind) (k : Nat) : Sp := fun vs H Q _ => ∃ (a : Addr) (xs : List V) (R : Nat → Hp → V → Prop), vs = [.ref a] ∧ SqL K H a xs ∧ xs.length ≤ 1000 ∧ (∀ i x, xs[i]? = some x → AskIn P w K mg base EK k H x (R i)) ∧
  ∀ (G : Hp) (t : Addr) (us : List V), Same H G → H t = none → G t = some (.lst us) → us.length = xs.length → (∀ i u, us[i]? = some u → R i G u) → Q (.ref t) G
theorem ok_law_whys {EK : List EKind} {cI cM : Addr} {k : Nat} (T : Txt K w mg Z) (hk1 : 1 ≤ k) (EO : ∀ e ∈ EK, KindOk K mg e) (ne0 : ∀ e ∈ EK, e.code ≠ "") (mI : mg "ImageError" = some (.ref cI)) (mM : mg "Missing" = some (.ref cM)) (G_law_field : HotP.FnHP P w K mg base C8.CX0 1 Z.a_law_field Z.d_law_field ["_law_e"] (sp_law_field K EK)) :
    FnOk P w K mg base CX0 (k + 3) Z.a_law_whys Z.d_law_whys ["_law_asks"] (sp_law_whys P w K mg base EK k) := by
  have G_law_why := ok_law_why (P := P) (base := base) (k := k) T hk1 EO ne0 mI mM G_law_field
  refine T.F_law_whys.ok sc_law_whys (fun vs H Q E h => ?_) (fun cdv A outer s H vs Q E hr h => ?_)
  · obtain ⟨a, xs, R, rfl, _⟩ := h
    rfl
  · obtain ⟨a, xs, R, rfl, hx, hl, asks, k⟩ := h
    refine ⟨_, (pss_one (ps_ret (pe_lc (own := [("_law_ask", 1)]) (g := gName 1) (tt := tYes) rfl sc_law_whys.nd (pi_list (pv 0)) (blkOk_by (N := N_law_whys) (sc := defScope s_law_whys) (by decide +kernel)) (fun _ _ _ _ _ => pg_name (i := 1) sc_law_whys.nd rfl (Or.inl rfl)) (fun _ _ _ _ _ => pts_nil) (fun _ _ _ _ _ => (pe_call G_law_why (hr.mono (by omega)) (by rfl) T.m_law_why T.F_law_why.kp T.b_law_why .nil pass0 (pa_cons (pv 1) pa_nil)))))), ?_⟩
    rw [show L2.start N_law_whys [V.ref a] = [some (V.ref a), none] from rfl]
    try dsimp only [cxOf, Cx.nox]
    tm_at "go"
    refine Go.lc_w (walk_list (K := K) (xs := xs)) (fun L i H' => Same H H' ∧ H L = none ∧ i ≤ xs.length ∧ ∃ us : List V, us.length = i ∧ H' L = some (.lst us) ∧ ∀ j u, us[j]? = some u → R j H' u) (by tm_at "wipe") ?_ ?_ ?_ ?_
    · intro L H2 n0 s2 e2
      exact ⟨s2, n0, Nat.zero_le _, [], rfl, e2, fun j u e => by cases e⟩
    · intro L i H2 hi ⟨s2, _⟩
      exact Go.lS s2 hx
    · rintro L i v H2 H3 hi ⟨s2, nL, li, us, lu, e2, hR⟩ ⟨rfl, hv⟩
      have A1 := asks i v hv
      obtain ⟨f, fs, sp, rfl, ok, hf, q⟩ := A1.ex
      tm_at "go"
      refine i_why ok (fun p hp => s2 _ _ (hf p hp)) fun Q' E' hQ hE => q _ _ Q' E' s2 (fun G u s3 r => ?_) hQ hE
      refine Go.lcEnd (s3 _ _ e2) (Go.lt_line (by omega)) fun H6 s6 e6 => ?_
      have tu : ∀ b ys, G b = some (.tup ys) → H6 b = some (.tup ys) := fun b ys e => s6 b _ (fun z => by
        rw [z, s3 _ _ e2] at e
        cases e) e
      have tu2 : ∀ b ys, H3 b = some (.tup ys) → H6 b = some (.tup ys) := fun b ys e => tu b ys (s3 _ _ e)
      refine ⟨Go.Same.own (s2.trans s3) nL s6, nL, by omega, us ++ [u], by rw [List.length_append, lu]; rfl, e6, fun j z ej => ?_⟩
      rw [List.getElem?_append] at ej
      split at ej
      · rename_i hj
        obtain ⟨xj, hxj⟩ : ∃ xj, xs[j]? = some xj := ⟨xs[j], List.getElem?_eq_getElem (by omega)⟩
        exact (asks j xj hxj).stay H3 H6 z tu2 (hR j z ej)
      · rename_i hj
        have e0 : j = i := by
          by_cases c : j - us.length = 0
          · omega
          · rw [List.getElem?_eq_none (by simp; omega)] at ej
            cases ej
        subst e0
        rw [lu, Nat.sub_self] at ej
        cases ej
        exact A1.stay G H6 u tu r
    · rintro L H2 ⟨s2, nL, li, us, lu, e2, hR⟩
      exact k H2 L us s2 nL e2 lu hR
end

open Lend LamX NdefX
namespace Go
/-! ### a lambda is made: all but the tables of code objects stays -/
structure Grow (H H1 : Hp) : Prop where
  ext : ExtN H H1
  non : ∀ b, H1 b = none → H b = none
section
variable {K : PySem.W.Frag} {H H1 : Hp} {a p q : Addr} {o : HO} {xs : List V}
theorem Grow.trans {H2 : Hp} (x : Grow H H1) (y : Grow H1 H2) : Grow H H2 := ⟨x.ext.trans y.ext, fun b e => x.non b (y.non b e)⟩
theorem Grow.same (s : Same H H1) : Grow H H1 := ⟨ExtN.of s, fun _ e => freeS s e⟩
theorem oX (s : Grow H H1) (n : ∀ ps, o ≠ .tbl ps) (h : H p = some o) : H1 p = some o := s.ext _ _ h n
theorem lX (s : Grow H H1) (h : SqL K H a xs) : SqL K H1 a xs := by
  rcases h with (h | ⟨o, h⟩) | h
  · exact .inl (.inl (s.ext _ _ h fun ps z => nomatch z))
  · exact .inl (.inr ⟨o, s.ext _ _ h fun ps z => nomatch z⟩)
  · exact .inr h
theorem tX (s : Grow H H1) (h : SqT K H a xs) : SqT K H1 a xs := by
  rcases h with (h | ⟨o, h⟩) | h
  · exact .inl (.inl (s.ext _ _ h fun ps z => nomatch z))
  · exact .inl (.inr ⟨o, s.ext _ _ h fun ps z => nomatch z⟩)
  · exact .inr h
theorem nX (s : Grow H H1) (h : H1 q = none) : H q = none := s.non q h
theorem lst_ne {xs : List V} (ps : Array Value) : HO.lst xs ≠ .tbl ps := fun z => nomatch z
theorem tup_ne {xs : List V} (ps : Array Value) : HO.tup xs ≠ .tbl ps := fun z => nomatch z
theorem funO_ne {f : Addr} {fd : FuncData} (ps : Array Value) : FunO f fd ≠ .tbl ps := fun z => by
  unfold FunO at z
  cases z
theorem lamq {T : List (Addr × Str)} {q : Str} {params : Arguments} {body : Expr} {scope : Scope} {cl : List (Str × Addr)} {ds : List V} {Q : VK} (hT : Tabs T H)
    (k : ∀ (f c' : Addr) (dV doc pm ct : Value) (H2 : Hp), Grow H H2 → H f = none → Tabs T H2 → H2 f = some (FunO f (lamFd "<lambda>" q params body scope cl dV doc pm c' ct)) → H2 c' = some (CodeO c' q) → DefsAt H2 dV ds → Q (.ref f) H2) : LamQ T q params body scope cl ds H Q :=
  ⟨hT, fun f c' dV doc pm ct H1 H2 e1 e2 M d => k f c' dV doc pm ct H2 ⟨(ExtN.of e1).trans M.ext, fun b z => e2 b (M.non b z)⟩ (e2 f M.new) M.tabs M.fn M.code d⟩
end
end Go
theorem Bag.grow {b l : Addr} {H H' : Hp} (s : Go.Grow H H') (h : Bag H b l) : Bag H' b l := by
  obtain ⟨ns, i, r, m, n, h1, h2, h3⟩ := h
  exact ⟨ns, i, r, m, n, Go.oX s (fun _ z => nomatch z) h1, Go.oX s (fun _ z => nomatch z) h2, h3⟩

open Lend LamX NdefX SupX
theorem Dt.lit {K : PySem.W.Frag} {H : Hp} {b : Addr} {z : Str} (h : (decide (z.cps.size ≤ 100000) && z.cps.toList.all fun c => decide (c < 1114112)) = true) : Dt K H b (.str z) (.str z) := by
  rw [Bool.and_eq_true] at h
  exact .str ⟨of_decide_eq_true h.1, fun c m => of_decide_eq_true (List.all_eq_true.mp h.2 c m)⟩
mutual
theorem Dt.grow {K : PySem.W.Frag} {H H' : Hp} {b : Addr} (s : Go.Grow H H') : ∀ {v : V} {d : PyData}, Dt K H b v d → Dt K H' b v d
  | _, _, .non => .non
  | _, _, .bl k => .bl k
  | _, _, .int i => .int i
  | _, _, .str h => .str h
  | _, _, .lst h n l r => .lst (Go.lX s h) n l (DtA.grow s r)
  | _, _, .tup h n l r => .tup (Go.tX s h) n l (DtA.grow s r)
theorem DtA.grow {K : PySem.W.Frag} {H H' : Hp} {b : Addr} (s : Go.Grow H H') : ∀ {v : List V} {d : List PyData}, DtA K H b v d → DtA K H' b v d
  | _, _, .nil => .nil
  | _, _, .cons h r => .cons (Dt.grow s h) (DtA.grow s r)
end
local macro_rules | `(tactic| tm_at "dt") => `(tactic| first
  | (refine' Dt.grow (by assumption) ?z0; (case z0 => tm_at "dt"))
  | (refine' Dt.tup ?h ?n ?l ?r; (case h => tm_at "hpT"); (case n => tm_at "ne"); (case l => exact Nat.le_of_ble_eq_true rfl); (case r => tm_at "dtA"))
  | (refine' Dt.lst ?h ?n ?l ?r; (case h => tm_at "hpL"); (case n => tm_at "ne"); (case l => exact Nat.le_of_ble_eq_true rfl); (case r => tm_at "dtA"))
  | fail)
local macro_rules | `(tactic| tm_at "dt") => `(tactic| first
  | assumption
  | exact Dt.str (by assumption)
  | exact Dt.lit (by decide +kernel)
  | fail)
local macro_rules | `(tactic| tm_at "dtA") => `(tactic| first
  | exact DtA.nil
  | (refine' DtA.cons ?a ?b; (case a => tm_at "dt"); (case b => tm_at "dtA"))
  | fail)
local macro_rules | `(tactic| tm_at "tblN") => `(tactic| first
  | with_reducible exact LamX.codeO_ne
  | fail)
local macro_rules | `(tactic| tm_at "tblN") => `(tactic| first
  | with_reducible exact Go.lst_ne
  | with_reducible exact Go.tup_ne
  | with_reducible exact Go.funO_ne
  | fail)
local macro_rules | `(tactic| tm_at "hpO") => `(tactic| first
  | (refine' Go.oX (by assumption) ?z0 ?z1; (case z0 => tm_at "tblN"); (case z1 => tm_at "hpO"))
  | fail)
local macro_rules | `(tactic| tm_at "hpL") => `(tactic| first
  | (refine' Go.lX (by assumption) ?z0; (case z0 => tm_at "hpL"))
  | fail)
local macro_rules | `(tactic| tm_at "hpT") => `(tactic| first
  | (refine' Go.tX (by assumption) ?z0; (case z0 => tm_at "hpT"))
  | fail)
local macro_rules | `(tactic| tm_at "bag") => `(tactic| first
  | (refine' Bag.grow (by assumption) ?z0; (case z0 => tm_at "bag"))
  | fail)
local macro_rules | `(tactic| tm_at "non") => `(tactic| first
  | (refine' Go.nX (by assumption) ?z0; (case z0 => tm_at "non"))
  | fail)
/-! ### what an error may tell of: a value of one depth -/
theorem Shows.but {K : PySem.W.Frag} {H H' : Hp} {b : Addr} {x : V} {d : PyData} {c : Nat} (s : Go.But b H H') (t : Dt K H b x d) (h : Shows K H x c) : Shows K H' x c := by
  rcases h with h | ⟨a, xs, ts, rfl, h, f, l⟩
  · exact .inl h
  · have n : a ≠ b := by cases t <;> assumption
    rcases h with h | h
    · exact .inr ⟨a, xs, ts, rfl, .inl (Go.tB s n h), f, l⟩
    · exact .inr ⟨a, xs, ts, rfl, .inr (Go.lB s n h), f, l⟩
theorem Shows.grow {K : PySem.W.Frag} {H H' : Hp} {x : V} {c : Nat} (s : Go.Grow H H') (h : Shows K H x c) : Shows K H' x c := by
  rcases h with h | ⟨a, xs, ts, rfl, h, f, l⟩
  · exact .inl h
  · rcases h with h | h
    · exact .inr ⟨a, xs, ts, rfl, .inl (Go.tX s h), f, l⟩
    · exact .inr ⟨a, xs, ts, rfl, .inr (Go.lX s h), f, l⟩
structure Odd (K : PySem.W.Frag) (H : Hp) (b : Addr) (v : V) (d : PyData) : Prop where
  dt : Dt K H b v d
  deep : dep d ≤ 1
  shows : ∃ c, Shows K H v c ∧ c ≤ 5000
theorem Odd.but {K : PySem.W.Frag} {H H' : Hp} {b : Addr} {v : V} {d : PyData} (s : Go.But b H H') (h : Odd K H b v d) : Odd K H' b v d := ⟨h.dt.but s, h.deep, let ⟨c, h1, h2⟩ := h.shows; ⟨c, Shows.but s h.dt h1, h2⟩⟩
theorem Odd.same {K : PySem.W.Frag} {H H' : Hp} {b : Addr} {v : V} {d : PyData} (s : Same H H') (h : Odd K H b v d) : Odd K H' b v d := h.but (Go.sb s)
theorem Odd.grow {K : PySem.W.Frag} {H H' : Hp} {b : Addr} {v : V} {d : PyData} (s : Go.Grow H H') (h : Odd K H b v d) : Odd K H' b v d := ⟨h.dt.grow s, h.deep, let ⟨c, h1, h2⟩ := h.shows; ⟨c, Shows.grow s h1, h2⟩⟩
local macro_rules | `(tactic| tm_at "odd") => `(tactic| first
  | (refine' Odd.grow (by assumption) ?z0; (case z0 => tm_at "odd"))
  | fail)
local macro_rules | `(tactic| tm_at "odd") => `(tactic| first
  | assumption
  | (refine' Odd.same (by assumption) ?z0; (case z0 => tm_at "odd"))
  | (refine' Odd.but (by assumption) ?z0; (case z0 => tm_at "odd"))
  | fail)
local macro_rules | `(tactic| tm_at "flat") => `(tactic| first
  | (refine Flat.str _ ?_; decide +kernel)
  | fail)
local macro_rules | `(tactic| tm_at "flat") => `(tactic| first
  | exact Flat.non
  | exact Flat.bl _
  | (refine Flat.int _ ?_; decide +kernel)
  | fail)
local macro_rules | `(tactic| tm_at "flatA") => `(tactic| first
  | exact FlatA.nil
  | (refine' FlatA.cons ?a ?b; (case a => tm_at "flat"); (case b => tm_at "flatA"))
  | fail)
local macro_rules | `(tactic| tm_at "mkOdd") => `(tactic| first
  | (refine' ⟨_, ⟨?d, ?e, 5000, .inl ⟨_, ?f, ?l⟩, Nat.le_refl _⟩⟩; (case d => tm_at "dt"); (case e => decide +kernel); (case f => tm_at "flat"); (case l => decide +kernel))
  | (refine' ⟨_, ⟨?d, ?e, 5000, .inr ⟨_, _, _, rfl, .inl ?s, ?f, ?l⟩, Nat.le_refl _⟩⟩; (case d => tm_at "dt"); (case s => tm_at "hpT"); (case f => tm_at "flatA"); (case e => decide +kernel); (case l => decide +kernel))
  | (refine' ⟨_, ⟨?d, ?e, 5000, .inr ⟨_, _, _, rfl, .inr ?s, ?f, ?l⟩, Nat.le_refl _⟩⟩; (case d => tm_at "dt"); (case s => tm_at "hpL"); (case f => tm_at "flatA"); (case e => decide +kernel); (case l => decide +kernel))
  | fail)
/-! ### what an asked function comes to -/
/-- nothing is wrong, or the code and the fields of what is raised -/
abbrev Wy := Option (Str × List V)
def WhyAt (o : Wy) (H : Hp) (t : Addr) : Prop := match o with
  | none => H t = some (.tup [.str "", .non])
  | some (c, xs) => ∃ u, H t = some (.tup [.str c, .ref u]) ∧ H u = some (.tup xs)
def RW (o : Wy) : Hp → V → Prop := fun G u => ∃ t, u = .ref t ∧ WhyAt o G t
theorem WhyAt.tups {o : Wy} {H H' : Hp} {t : Addr} (s : ∀ a ys, H a = some (.tup ys) → H' a = some (.tup ys)) (h : WhyAt o H t) : WhyAt o H' t := by
  match o, h with
  | none, h => exact s _ _ h
  | some (c, xs), ⟨u, h1, h2⟩ => exact ⟨u, s _ _ h1, s _ _ h2⟩
theorem WhyAt.same {o : Wy} {H H' : Hp} {t : Addr} (s : Same H H') (h : WhyAt o H t) : WhyAt o H' t := h.tups fun a ys e => s _ _ e
/-- its data -/
inductive WhyD (K : PySem.W.Frag) (H : Hp) (b : Addr) : Wy → PyData → Prop
  | ok : WhyD K H b none (.tuple [.str "", .none])
  | er {c : Str} {xs : List V} {ds : List PyData} (hc : StrK c) (hl : xs.length ≤ 100000) (h : DtA K H b xs ds) : WhyD K H b (some (c, xs)) (.tuple [.str c, .tuple ds])
theorem WhyAt.dt {K : PySem.W.Frag} {o : Wy} {H : Hp} {b l t : Addr} {d : PyData} (hB : Bag H b l) (h : WhyAt o H t) (hd : WhyD K H b o d) : Dt K H b (.ref t) d := by
  have ne : ∀ {a : Addr} {ys : List V}, H a = some (.tup ys) → a ≠ b := fun {a ys} e z => by
    obtain ⟨ns, i, r, m, n, h1, _⟩ := hB
    rw [z, h1] at e
    cases e
  cases hd with
  | ok => exact .tup (SqT.of h) (ne h) (Nat.le_of_ble_eq_true rfl) (.cons (.lit (by decide +kernel)) (.cons .non .nil))
  | er hc hl hx =>
    obtain ⟨u, h1, h2⟩ := h
    exact .tup (SqT.of h1) (ne h1) (Nat.le_of_ble_eq_true rfl) (.cons (.str hc) (.cons (.tup (SqT.of h2) (ne h2) hl hx) .nil))
/-- how a call ends: with a value, or an error of a kind with its fields -/
def EndsSo (o : Option (EKind × List V)) (G : Hp) (Q : VK) (E : XK) : Prop := match o with
  | none => ∀ v H', Same G H' → Q v H'
  | some (e, xs) => ∀ d H', ErrAt G H' d e xs → E (.ref e.D) (some d) H'
def wy (o : Option (EKind × List V)) : Wy := o.map fun p => (p.1.code, p.2)
section
variable {P : Program} {w : World} {K : PySem.W.Frag} {mg : Str → Option Value} {base : Heap} {Z : Fs}
theorem ask_gen {EK : List EKind} {f : Addr} {k : Nat} {fs : List (Addr × HO)} {cs : List (Addr × Obj)} {σ0 : L2.St} {tb : XK → TE} {H : Hp} (o : Option (EKind × List V)) (ok : Lend.AskOk P w K mg base (L2N.CX P w) k f fs (LendN.askSp cs σ0 tb)) (hf : ∀ p ∈ fs, H p.1 = some p.2) (hi : Lend.Ins H cs)
    (hk : ∀ e xs, o = some (e, xs) → e ∈ EK ∧ xs.length = e.attrs.length) (hb : ∀ (G : Hp) (Q : VK) (E : XK), Same (Lend.unl H cs) G → EndsSo o G Q E → tb E σ0 G Q) :
    AskIn P w K mg base EK k H (.ref f) (RW (wy o)) := by
  refine ⟨⟨f, fs, _, rfl, ok, hf, fun H1 Qk Q' E' s1 kR hQ hE => ?_⟩, fun G G' u s ⟨t, e, h⟩ => ⟨t, e, h.tups s⟩⟩
  have i1 := LendN.Ins.same s1 hi
  refine hb _ _ _ (LendN.unl_same s1) ?_
  match o, hk, kR with
  | none, _, kR => exact fun v H' sH off => hQ _ _ fun G t sG nt et => kR G (.ref t) ((LendN.lend_same i1 sH).trans sG) ⟨t, rfl, et⟩
  | some (e, xs), hk, kR =>
    obtain ⟨he, hl⟩ := hk e xs rfl
    exact fun d H' eA off => hE _ _ _ ⟨e, he, xs, d, hl, rfl, rfl, LendN.lend_at off eA.at_, fun G u t s nu eu nt et => kR G (.ref t) ((LendN.lend_same i1 eA.same).trans s) ⟨t, rfl, u, et, eu⟩⟩
theorem ask_g0 {EK : List EKind} {f c' : Addr} {k : Nat} {qual : Str} {params : Arguments} {body : Expr} {scope : Scope} {dV doc pm ct : Value} {cs : List (Addr × Obj)} {N fr : List Str} {ws : List V} {X : Cx} {σ : L2.St} {ys : List (Str × Nat)} {H : Hp} {tb : XK → TE} (o : Option (EKind × List V))
    (S : NScope N [] fr scope) (C : LendN.CellW X σ ys cs) (off : LendN.Offs H cs) (hc : Paired (LendN.Cap X cs) fr ws) (hF : H f = some (FunO f (lamFd "<lambda>" qual params body scope (cloFrom X.env.cells scope.names []) dV doc pm c' ct))) (hC : H c' = some (CodeO c' qual)) (hD : DefsAt H dV []) (hb0 : bindArgs (lamFd "<lambda>" qual params body scope (cloFrom X.env.cells scope.names []) .none doc pm c' ct) ⟨[], []⟩ = pure [])
    (hbody : ∀ (A : Around) (outer : List Env) (s : Shared) (H : Hp) (E : XK), Room k (A.deeper (envF ⟨"<lambda>", qual, params, [], scope, cloFrom X.env.cells scope.names [], c'⟩ f s.heap.objs.size)) →
      PE (ncx (L2N.CX P w) P w K mg base N ⟨"<lambda>", qual, params, [], scope, cloFrom X.env.cells scope.names [], c'⟩ f A outer s H E) body (tb E))
    (hk : ∀ e xs, o = some (e, xs) → e ∈ EK ∧ xs.length = e.attrs.length) (hb : ∀ (G : Hp) (Q : VK) (E : XK), Same H G → EndsSo o G Q E → tb E (startF N [] (ws.map some)) G Q) :
    AskIn P w K mg base EK (k + 1) (Lend.lend H cs) (.ref f) (RW (wy o)) := by
  obtain ⟨fs, ok, hf⟩ := LendN.ask0 S C off hc hF hC hD hb0 hbody
  have su := LendN.same_unl_lend (cs := cs) off
  exact ask_gen o ok hf Lend.lend_ins hk fun G Q E s => hb G Q E (su.trans s)
theorem ask_g1 {EK : List EKind} {f c' : Addr} {k : Nat} {qual : Str} {params : Arguments} {body : Expr} {scope : Scope} {dV doc pm ct : Value} {cs : List (Addr × Obj)} {N fr : List Str} {ws : List V} {X : Cx} {σ : L2.St} {ys : List (Str × Nat)} {H : Hp} {tb : XK → TE} {z : Str} {d : V} (o : Option (EKind × List V))
    (S : NScope N [z] fr scope) (C : LendN.CellW X σ ys cs) (off : LendN.Offs H cs) (hc : Paired (LendN.Cap X cs) fr ws) (hF : H f = some (FunO f (lamFd "<lambda>" qual params body scope (cloFrom X.env.cells scope.names []) dV doc pm c' ct))) (hC : H c' = some (CodeO c' qual)) (hD : DefsAt H dV [d])
    (hb0 : ∃ k : Option (Array Value) → Sem (List (Str × Value)), bindArgs (lamFd "<lambda>" qual params body scope (cloFrom X.env.cells scope.names []) dV doc pm c' ct) ⟨[], []⟩ = seqItems? (lamFd "<lambda>" qual params body scope (cloFrom X.env.cells scope.names []) dV doc pm c' ct).defaults >>= k ∧ ∀ u, k (some #[u]) = pure [(z, u)])
    (hbody : ∀ (A : Around) (outer : List Env) (s : Shared) (H : Hp) (E : XK), Room k (A.deeper (envF ⟨"<lambda>", qual, params, [], scope, cloFrom X.env.cells scope.names [], c'⟩ f s.heap.objs.size)) →
      PE (ncx (L2N.CX P w) P w K mg base N ⟨"<lambda>", qual, params, [], scope, cloFrom X.env.cells scope.names [], c'⟩ f A outer s H E) body (tb E))
    (hk : ∀ e xs, o = some (e, xs) → e ∈ EK ∧ xs.length = e.attrs.length) (hb : ∀ (G : Hp) (Q : VK) (E : XK), Same H G → EndsSo o G Q E → tb E (startF N [d] (ws.map some)) G Q) :
    AskIn P w K mg base EK (k + 1) (Lend.lend H cs) (.ref f) (RW (wy o)) := by
  obtain ⟨fs, ok, hf⟩ := LendN.ask1 S C off hc hF hC hD hb0 hbody
  have su := LendN.same_unl_lend (cs := cs) off
  exact ask_gen o ok hf Lend.lend_ins hk fun G Q E s => hb G Q E (su.trans s)
def CW (X : Cx) (ys : List (Str × Nat)) (sp : Sp) (dvs : List V) (σ : L2.St) (vs : List V) (H1 : Hp) (Q : VK) : Prop := (∀ y ∈ ys, LendN.CapOk X σ y) ∧ ∀ cs, LendN.CellW X σ ys cs → LendN.Offs H1 cs → sp (vs ++ dvs) (Lend.lend H1 cs) (fun v H2 => Lend.Ins H2 cs ∧ Q v (Lend.unl H2 cs)) C8.E0
theorem callW {X : Cx} {ys : List (Str × Nat)} {sp : Sp} {dvs : List V} {t : TA} {σ : L2.St} {H : Hp} {Q : VK} (q : t σ H fun vs H1 => CW X ys sp dvs σ vs H1 Q) : LendN.tCallW X ys sp dvs t σ H Q := q
theorem whysW {X : Cx} {ys : List (Str × Nat)} {σ : L2.St} {H : Hp} {Q : VK} {EK : List EKind} {a : Addr} {k : Nat} {xs : List V} (oz : List Wy) (hx : SqL K H a xs) (hl : xs.length = oz.length) (hl2 : xs.length ≤ 1000) (caps : ∀ y ∈ ys, LendN.CapOk X σ y)
    (asks : ∀ cs, LendN.CellW X σ ys cs → LendN.Offs H cs → ∀ i x, xs[i]? = some x → AskIn P w K mg base EK k (Lend.lend H cs) x (RW (oz.getD i none)))
    (q : ∀ (G : Hp) (t : Addr) (ts : List Addr), Same H G → H t = none → G t = some (.lst (ts.map V.ref)) → Paired (fun t o => WhyAt o G t) ts oz → Q (.ref t) G) : CW X ys (sp_law_whys P w K mg base EK k) [] σ [.ref a] H Q := by
  refine ⟨caps, fun cs C off => ⟨a, xs, fun i => RW (oz.getD i none), rfl, Go.lS (LendN.lend_sub off) hx, hl2, asks cs C off, fun G t us sG nt et hlen hR => ⟨LendN.Ins.same sG Lend.lend_ins, ?_⟩⟩⟩
  have iG : Lend.Ins G cs := LendN.Ins.same sG Lend.lend_ins
  have sU : Same H (Lend.unl G cs) := LendN.unl_of off sG
  have key : ∀ (us : List V) (oz : List Wy), us.length = oz.length → (∀ i u, us[i]? = some u → RW (oz.getD i none) G u) → ∃ ts : List Addr, us = ts.map V.ref ∧ Paired (fun t o => WhyAt o (Lend.unl G cs) t) ts oz := by
    intro us
    induction us with
    | nil =>
      intro oz hl _
      cases oz with
      | nil => exact ⟨[], rfl, .nil⟩
      | cons o r => cases hl
    | cons u us ih =>
      intro oz hl hR
      cases oz with
      | nil => cases hl
      | cons o r =>
        obtain ⟨ts, rfl, hp⟩ := ih r (by simpa using hl) (fun i v e => by simpa using hR (i + 1) v (by simpa using e))
        obtain ⟨t, rfl, ht⟩ := hR 0 u rfl
        exact ⟨t :: ts, rfl, .cons (ht.tups fun a ys e => LendN.unl_at iG (fun o => Lend.celO_tup) e) hp⟩
  obtain ⟨ts, rfl, hp⟩ := key us oz (by rw [hlen, hl]) hR
  exact q _ t ts sU (LendN.lend_non nt) (LendN.unl_at iG (fun o => LendN.celO_lst) et) hp
end
theorem tabS {T : List (Addr × Str)} {H H' : Hp} (s : Same H H') (t : Tabs T H) : Tabs T H' := t.ext s
theorem tabB {T : List (Addr × Str)} {H H' : Hp} {b l : Addr} (hB : Bag H b l) (s : Go.But b H H') (t : Tabs T H) : Tabs T H' := fun p hp => by
  obtain ⟨ns, i, r, m, n, h1, _⟩ := hB
  obtain ⟨ps, e1, e2, e3⟩ := t p hp
  have n1 : p.1 ≠ b := fun z => by
    rw [z, h1] at e1
    cases e1
  refine ⟨ps, s _ _ n1 e1, e2, fun pos cv hc => ?_⟩
  obtain ⟨c, q1, q2⟩ := e3 pos cv hc
  refine ⟨c, q1, s _ _ (fun z => ?_) q2⟩
  rw [z, h1] at q2
  have z' := Option.some.inj q2
  unfold CodeO at z'
  cases z'
theorem Dt.intE {K : PySem.W.Frag} {H : Hp} {b : Addr} {i j : Int} (e : i = j) : Dt K H b (.int i) (.int j) := by
  subst e
  exact .int _
theorem defsS {H H' : Hp} {dV : Value} {ds : List V} (s : Same H H') (h : DefsAt H dV ds) : DefsAt H' dV ds := by
  cases ds with
  | nil => exact h
  | cons d r =>
    obtain ⟨t, e, ht⟩ := h
    exact ⟨t, e, s _ _ ht⟩
theorem defsX {H H' : Hp} {dV : Value} {ds : List V} (s : Go.Grow H H') (h : DefsAt H dV ds) : DefsAt H' dV ds := by
  cases ds with
  | nil => exact h
  | cons d r =>
    obtain ⟨t, e, ht⟩ := h
    exact ⟨t, e, Go.oX s (fun _ z => nomatch z) ht⟩
local macro_rules | `(tactic| tm_at "defs") => `(tactic| first
  | assumption
  | (refine' defsS (by assumption) ?z0; (case z0 => tm_at "defs"))
  | (refine' defsX (by assumption) ?z0; (case z0 => tm_at "defs"))
  | fail)
local macro_rules | `(tactic| tm_at "shw") => `(tactic| first
  | (intro z; exact absurd z (by decide +kernel))
  | (intro _; refine' ⟨5000, .inl ⟨_, ?f, ?l⟩, Nat.le_refl _⟩; (case f => tm_at "flat"); (case l => decide +kernel))
  | fail)
abbrev QL (q : Str) : Str := q ++ ".<locals>." ++ "<lambda>"
theorem AskIn.to {P : Program} {w : World} {K : PySem.W.Frag} {mg : Str → Option Value} {base : Heap} {EK : List EKind} {k : Nat} {H : Hp} {x : V} {o o' : Wy} (h : AskIn P w K mg base EK k H x (RW o)) (e : o = o') : AskIn P w K mg base EK k H x (RW o') := e ▸ h

open Lend LamX NdefX SupX
section
variable {P : Program} {w : World} {K : PySem.W.Frag} {mg : Str → Option Value} {base : Heap} {Z : Fs}
def sp_law_odd (K : PySem.W.Frag) : Sp := fun vs H Q _ => ∃ (b l a : Addr) (ms : List V), vs = [.ref b, .ref a] ∧ Bag H b l ∧ H a = some (.lst ms) ∧ a ≠ b ∧ ms.length ≤ 100 ∧ (∀ v ∈ ms, ∃ d, Odd K H b v d) ∧ ∀ (H' : Hp) (v : V) (d : PyData), Stp b H H' → Bag H' b l → Odd K H' b v d → (∀ a, v = .ref a → H a = none ∨ V.ref a ∈ ms) → Q v H'
theorem ok_law_odd (T : Txt K w mg Z) : FnOk P w K mg base CX0 3 Z.a_law_odd Z.d_law_odd ["_law_bag_here", "_law_more"] (sp_law_odd K) := by
  have G_law_of := ok_law_of (P := P) (base := base) T
  refine T.F_law_odd.ok sc_law_odd (fun vs H Q E h => ?_) (fun cdv A outer s H vs Q E hr h => ?_)
  · obtain ⟨b, l, a, ms, rfl, _⟩ := h
    rfl
  · obtain ⟨b, l, a, ms, rfl, hB, ha, nab, hl, hm, k⟩ := h
    refine ⟨_, (pss_one (ps_ret (pe_call G_law_of (hr.mono (by omega)) (by rfl) T.m_law_of T.F_law_of.kp T.b_law_of .nil pass0 (pa_cons (pv 0) (pa_cons (pe_op op_cat (pe_lst (pa_cons pe_non (pa_cons pe_bl (pa_cons pe_bl (pa_cons pe_str (pa_cons pe_str (pa_cons (pe_un un_neg pe_int) (pa_cons pe_int (pa_cons (pe_tup pa_nil) (pa_cons (pe_lst pa_nil) (pa_cons (pe_tup (pa_cons pe_int pa_nil)) (pa_cons (pe_lst (pa_cons pe_str pa_nil)) (pa_cons pe_str (pa_cons (pe_tup (pa_cons pe_str (pa_cons pe_str pa_nil))) (pa_cons (pe_lst (pa_cons pe_non pa_nil)) pa_nil))))))))))))))) (pv 1)) pa_nil))))), ?_⟩
    rw [show L2.start N_law_odd [V.ref b, V.ref a] = [some (V.ref b), some (V.ref a)] from rfl]
    try dsimp only [cxOf, Cx.nox]
    tm_at "go"
    refine Go.cat (by tm_at "hpO") (by tm_at "hpO") (Go.le_line (by simp only [List.length_cons, List.length_nil]; omega)) rfl ?_
    tm_at "go"
    refine i_of (b := b) (l := l) (by tm_at "bag") (SqL.of (by assumption)) (by assumption) (by simp) (by simp; omega) fun H' v sB B hv => ?_
    obtain ⟨⟨d, hd⟩, hR⟩ : (∃ d, Odd K H' b v d) ∧ ∀ a, v = .ref a → H a = none ∨ V.ref a ∈ ms := by
      rcases List.mem_append.mp hv with hv | hv
      · revert hv
        refine fun hv => (show ∀ y ∈ _, (∃ d, Odd K H' b y d) ∧ ∀ a, y = .ref a → H a = none ∨ V.ref a ∈ ms from ?_) _ hv
        tm_at "all"
        all_goals (refine ⟨by tm_at "mkOdd", ?_⟩; intro a e; cases e; all_goals exact .inl (by tm_at "non"))
      · obtain ⟨d, o⟩ := hm v hv
        exact ⟨⟨d, by tm_at "odd"⟩, fun a e => .inr (e ▸ hv)⟩
    exact k _ _ _ (by tm_at "but") B hd hR
end
theorem i_odd {K : PySem.W.Frag} {H : Hp} {Q : VK} {E : XK} {b l a : Addr} {ms : List V} (hB : Bag H b l) (ha : H a = some (.lst ms)) (n : a ≠ b) (hl : ms.length ≤ 100) (hm : ∀ v ∈ ms, ∃ d, Odd K H b v d) (q : ∀ (H' : Hp) (v : V) (d : PyData), Stp b H H' → Bag H' b l → Odd K H' b v d → (∀ a, v = .ref a → H a = none ∨ V.ref a ∈ ms) → Q v H') : sp_law_odd K [.ref b, .ref a] H Q E := ⟨b, l, a, ms, rfl, hB, ha, n, hl, hm, q⟩
theorem i_sameB {K : PySem.W.Frag} {n : Nat} {H : Hp} {Q : VK} {E : XK} {x y : V} {b l : Addr} {d : PyData} (_ : Bag H b l) (h1 : Dt K H b x d) (h2 : Dt K H b y d) (h3 : dep d ≤ n) (q : ∀ H' : Hp, Same H H' → Q (.bl true) H') : sp_law_same K n [x, y] H Q E := ⟨x, y, b, d, rfl, h1, h2, h3, q⟩
theorem i_bag {K : PySem.W.Frag} {H : Hp} {Q : VK} {E : XK} {a : Addr} {ns : List Int} (h : SqL K H a (ns.map V.int)) (hl : ns.length ≤ 63) (q : ∀ (H' : Hp) (b l : Addr), Same H H' → H b = none → H l = none → Bag H' b l → Q (.ref b) H') : sp_law_bag K [.ref a] H Q E := ⟨a, ns, rfl, h, hl, q⟩
local macro_rules | `(tactic| tm_at "allOdd") => `(tactic| (tm_at "all"; all_goals tm_at "mkOdd"))
local macro_rules | `(tactic| tm_at "tabs") => `(tactic| first
  | assumption
  | (refine' tabS (by assumption) ?z0; (case z0 => tm_at "tabs"))
  | (refine' tabB ?z1 (by assumption) ?z0; (case z0 => tm_at "tabs"); (case z1 => tm_at "bag"))
  | fail)
local macro_rules | `(tactic| tm_at "sp") => `(tactic| first
  | ((with_reducible refine' i_sameB ?b ?h1 ?h2 ?h3 ?_); (case b => tm_at "bag"); (case h1 => tm_at "dt"); (case h2 => tm_at "dt"); (case h3 => (first | decide +kernel | (simp only [dep, depA]; omega))); intro _ _)
  | fail)
local macro_rules | `(tactic| tm_at "sp") => `(tactic| first
  | ((with_reducible refine' i_of ?b ?x ?n ?y ?z ?_); (case b => tm_at "bag"); (case x => tm_at "hpL"); (case n => tm_at "ne"); (case y => exact Nat.le_of_ble_eq_true rfl); (case z => exact Nat.le_of_ble_eq_true rfl); intro _ _ _ _ _)
  | ((with_reducible refine' i_bag ?a ?b ?_); (case a => tm_at "hpL"); (case b => assumption); intro _ _ _ _ _ _ _)
  | ((with_reducible refine' i_odd ?b ?a ?n ?l ?m ?_); (case b => tm_at "bag"); (case a => tm_at "hpO"); (case n => tm_at "ne"); (case l => exact Nat.le_of_ble_eq_true rfl); (case m => tm_at "allOdd"); intro _ _ _ _ _ _ _)
  | fail)
local macro_rules | `(tactic| tm_at "sp") => `(tactic| first
  | with_reducible refine LendN.min2 ?_
  | with_reducible refine callW ?_
  | ((with_reducible refine' Go.lamq ?h ?_); (case h => tm_at "tabs"); intro _ _ _ _ _ _ _ _ _ _ _ _ _)
  | fail)

open Lend LamX NdefX SupX
theorem ns_E_InvalidName : NScope ["self", "value", "__class__"] ["self", "value"] ["__class__"] (defScope s_E_InvalidName) := nscope_by (by decide +kernel)
theorem ok_E_InvalidName {P : Program} {w : World} {K : PySem.W.Frag} {mg : Str → Option Value} {base : Heap} {D f : Addr} {fd : FuncData} (PS : ProgS P FL) (EC_ : EC K mg "InvalidName" "InvalidName.__init__" s_E_InvalidName ⟨D, "InvalidName", ["value"]⟩ f fd) :
    FnOk P w K mg base C8.CX0 1 f fd ["self", "value"] (sp_err1 K D "value" "InvalidName") := by
  have V := EC_.V
  have n1 : PySem.W.findIn K (.ref D) "value" = some none := EC_.ok.attr _ (.head _)
  have n2 : PySem.W.findIn K (.ref D) "code" = some none := EC_.ok.code
  obtain ⟨oc, od, osl, dV, kV, doc, pm, an, cda, ct, cc, bmB, lk, rfl, SF, FB⟩ := V.sup
  refine fn_super (N := ["self", "value", "__class__"]) (k := 0) lk PS SF FB PySem.W.kxs_ValueError ns_E_InvalidName (by decide +kernel) rfl (fun _ => rfl) (fun _ => rfl) (fun _ => rfl) (fun vs H Q E h => ?_) (fun A outer s H vs Q E hr h => ?_)
  · obtain ⟨a, x, c, rfl, _⟩ := h
    rfl
  · obtain ⟨a, x, c, rfl, ha, hs, hc, k⟩ := h
    have v0 : ∀ i z, i < 2 → (ncx C8.CX0 P w K mg base ["self", "value", "__class__"] (supNF "__init__" "InvalidName.__init__" (defArgs s_E_InvalidName) (defBody s_E_InvalidName) (defScope s_E_InvalidName) cc cda) f A outer s H E).N[i]? = some z → Vis (defScope s_E_InvalidName) z := fun i z hi e => by
      match i, hi with
      | 0, _ => cases e; exact .inl (by decide +kernel)
      | 1, _ => cases e; exact .inl (by decide +kernel)
    refine ⟨a, _, _, rfl, ha, pa_cons (pe_joined (.cons (pe_fmtX hr (pe_var (i := 1) rfl (v0 1 _ (by decide) rfl))) (.cons pe_str .nil))) pa_nil, pss_cons (ps_ost (pe_var (i := 0) rfl (v0 0 _ (by decide) rfl)) (pe_var (i := 1) rfl (v0 1 _ (by decide) rfl))) (pss_one (ps_ost (pe_var (i := 0) rfl (v0 0 _ (by decide) rfl)) pe_str)), ?_⟩
    have big : (6000 : Nat) ≤ sizeLine := by decide
    have z1 : (" is not a name" : Str).length ≤ 100 := by decide +kernel
    refine' ⟨x, rfl, c, hs, by omega, fun m hm => ⟨m, rfl, ?l0, _, rfl, ?l1, (by show 1 ≤ 1000; decide), ha, x, rfl, .ref a, rfl, a, D, rfl, V.oex, n1, .inl ⟨ha, fun dx hd hn => ?fin⟩⟩⟩
    (case l0 =>
      show Str.length (Str.empty ++ m) ≤ sizeLine
      rw [strLen_append]
      show 0 + Str.length m ≤ sizeLine
      omega)
    (case l1 =>
      show Str.length (Str.empty ++ m ++ (" is not a name" : Str)) ≤ sizeLine
      rw [strLen_append, strLen_append]
      show 0 + Str.length m + Str.length (" is not a name" : Str) ≤ sizeLine
      omega)
    (case fin =>
      have e2 : upd (upd H dx (exd dx [("value", x)])) a (exo a D (some dx)) dx = some (exd dx [("value", x)]) := by
        rw [upd_ne hn, upd_same]
      exact ⟨.ref a, rfl, a, D, rfl, V.oex, n2, .inr ⟨dx, [("value", x)], upd_same, e2, (by show 1 ≤ 900; decide), k dx hd hn⟩⟩)

theorem ns_E_InvalidPart : NScope ["self", "value", "__class__"] ["self", "value"] ["__class__"] (defScope s_E_InvalidPart) := nscope_by (by decide +kernel)
theorem ok_E_InvalidPart {P : Program} {w : World} {K : PySem.W.Frag} {mg : Str → Option Value} {base : Heap} {D f : Addr} {fd : FuncData} (PS : ProgS P FL) (EC_ : EC K mg "InvalidPart" "InvalidPart.__init__" s_E_InvalidPart ⟨D, "InvalidPart", ["value"]⟩ f fd) :
    FnOk P w K mg base C8.CX0 1 f fd ["self", "value"] (sp_err1 K D "value" "InvalidPart") := by
  have V := EC_.V
  have n1 : PySem.W.findIn K (.ref D) "value" = some none := EC_.ok.attr _ (.head _)
  have n2 : PySem.W.findIn K (.ref D) "code" = some none := EC_.ok.code
  obtain ⟨oc, od, osl, dV, kV, doc, pm, an, cda, ct, cc, bmB, lk, rfl, SF, FB⟩ := V.sup
  refine fn_super (N := ["self", "value", "__class__"]) (k := 0) lk PS SF FB PySem.W.kxs_ValueError ns_E_InvalidPart (by decide +kernel) rfl (fun _ => rfl) (fun _ => rfl) (fun _ => rfl) (fun vs H Q E h => ?_) (fun A outer s H vs Q E hr h => ?_)
  · obtain ⟨a, x, c, rfl, _⟩ := h
    rfl
  · obtain ⟨a, x, c, rfl, ha, hs, hc, k⟩ := h
    have v0 : ∀ i z, i < 2 → (ncx C8.CX0 P w K mg base ["self", "value", "__class__"] (supNF "__init__" "InvalidPart.__init__" (defArgs s_E_InvalidPart) (defBody s_E_InvalidPart) (defScope s_E_InvalidPart) cc cda) f A outer s H E).N[i]? = some z → Vis (defScope s_E_InvalidPart) z := fun i z hi e => by
      match i, hi with
      | 0, _ => cases e; exact .inl (by decide +kernel)
      | 1, _ => cases e; exact .inl (by decide +kernel)
    refine ⟨a, _, _, rfl, ha, pa_cons (pe_joined (.cons (pe_fmtX hr (pe_var (i := 1) rfl (v0 1 _ (by decide) rfl))) (.cons pe_str .nil))) pa_nil, pss_cons (ps_ost (pe_var (i := 0) rfl (v0 0 _ (by decide) rfl)) (pe_var (i := 1) rfl (v0 1 _ (by decide) rfl))) (pss_one (ps_ost (pe_var (i := 0) rfl (v0 0 _ (by decide) rfl)) pe_str)), ?_⟩
    have big : (6000 : Nat) ≤ sizeLine := by decide
    have z1 : (" is not a part" : Str).length ≤ 100 := by decide +kernel
    refine' ⟨x, rfl, c, hs, by omega, fun m hm => ⟨m, rfl, ?l0, _, rfl, ?l1, (by show 1 ≤ 1000; decide), ha, x, rfl, .ref a, rfl, a, D, rfl, V.oex, n1, .inl ⟨ha, fun dx hd hn => ?fin⟩⟩⟩
    (case l0 =>
      show Str.length (Str.empty ++ m) ≤ sizeLine
      rw [strLen_append]
      show 0 + Str.length m ≤ sizeLine
      omega)
    (case l1 =>
      show Str.length (Str.empty ++ m ++ (" is not a part" : Str)) ≤ sizeLine
      rw [strLen_append, strLen_append]
      show 0 + Str.length m + Str.length (" is not a part" : Str) ≤ sizeLine
      omega)
    (case fin =>
      have e2 : upd (upd H dx (exd dx [("value", x)])) a (exo a D (some dx)) dx = some (exd dx [("value", x)]) := by
        rw [upd_ne hn, upd_same]
      exact ⟨.ref a, rfl, a, D, rfl, V.oex, n2, .inr ⟨dx, [("value", x)], upd_same, e2, (by show 1 ≤ 900; decide), k dx hd hn⟩⟩)

theorem ns_E_InvalidAlignment : NScope ["self", "value", "__class__"] ["self", "value"] ["__class__"] (defScope s_E_InvalidAlignment) := nscope_by (by decide +kernel)
theorem ok_E_InvalidAlignment {P : Program} {w : World} {K : PySem.W.Frag} {mg : Str → Option Value} {base : Heap} {D f : Addr} {fd : FuncData} (PS : ProgS P FL) (EC_ : EC K mg "InvalidAlignment" "InvalidAlignment.__init__" s_E_InvalidAlignment ⟨D, "InvalidAlignment", ["value"]⟩ f fd) :
    FnOk P w K mg base C8.CX0 1 f fd ["self", "value"] (sp_err1 K D "value" "InvalidAlignment") := by
  have V := EC_.V
  have n1 : PySem.W.findIn K (.ref D) "value" = some none := EC_.ok.attr _ (.head _)
  have n2 : PySem.W.findIn K (.ref D) "code" = some none := EC_.ok.code
  obtain ⟨oc, od, osl, dV, kV, doc, pm, an, cda, ct, cc, bmB, lk, rfl, SF, FB⟩ := V.sup
  refine fn_super (N := ["self", "value", "__class__"]) (k := 0) lk PS SF FB PySem.W.kxs_ValueError ns_E_InvalidAlignment (by decide +kernel) rfl (fun _ => rfl) (fun _ => rfl) (fun _ => rfl) (fun vs H Q E h => ?_) (fun A outer s H vs Q E hr h => ?_)
  · obtain ⟨a, x, c, rfl, _⟩ := h
    rfl
  · obtain ⟨a, x, c, rfl, ha, hs, hc, k⟩ := h
    have v0 : ∀ i z, i < 2 → (ncx C8.CX0 P w K mg base ["self", "value", "__class__"] (supNF "__init__" "InvalidAlignment.__init__" (defArgs s_E_InvalidAlignment) (defBody s_E_InvalidAlignment) (defScope s_E_InvalidAlignment) cc cda) f A outer s H E).N[i]? = some z → Vis (defScope s_E_InvalidAlignment) z := fun i z hi e => by
      match i, hi with
      | 0, _ => cases e; exact .inl (by decide +kernel)
      | 1, _ => cases e; exact .inl (by decide +kernel)
    refine ⟨a, _, _, rfl, ha, pa_cons (pe_joined (.cons (pe_fmtX hr (pe_var (i := 1) rfl (v0 1 _ (by decide) rfl))) (.cons pe_str .nil))) pa_nil, pss_cons (ps_ost (pe_var (i := 0) rfl (v0 0 _ (by decide) rfl)) (pe_var (i := 1) rfl (v0 1 _ (by decide) rfl))) (pss_one (ps_ost (pe_var (i := 0) rfl (v0 0 _ (by decide) rfl)) pe_str)), ?_⟩
    have big : (6000 : Nat) ≤ sizeLine := by decide
    have z1 : (" is not an alignment" : Str).length ≤ 100 := by decide +kernel
    refine' ⟨x, rfl, c, hs, by omega, fun m hm => ⟨m, rfl, ?l0, _, rfl, ?l1, (by show 1 ≤ 1000; decide), ha, x, rfl, .ref a, rfl, a, D, rfl, V.oex, n1, .inl ⟨ha, fun dx hd hn => ?fin⟩⟩⟩
    (case l0 =>
      show Str.length (Str.empty ++ m) ≤ sizeLine
      rw [strLen_append]
      show 0 + Str.length m ≤ sizeLine
      omega)
    (case l1 =>
      show Str.length (Str.empty ++ m ++ (" is not an alignment" : Str)) ≤ sizeLine
      rw [strLen_append, strLen_append]
      show 0 + Str.length m + Str.length (" is not an alignment" : Str) ≤ sizeLine
      omega)
    (case fin =>
      have e2 : upd (upd H dx (exd dx [("value", x)])) a (exo a D (some dx)) dx = some (exd dx [("value", x)]) := by
        rw [upd_ne hn, upd_same]
      exact ⟨.ref a, rfl, a, D, rfl, V.oex, n2, .inr ⟨dx, [("value", x)], upd_same, e2, (by show 1 ≤ 900; decide), k dx hd hn⟩⟩)

theorem ns_E_InvalidScope : NScope ["self", "value", "__class__"] ["self", "value"] ["__class__"] (defScope s_E_InvalidScope) := nscope_by (by decide +kernel)
theorem ok_E_InvalidScope {P : Program} {w : World} {K : PySem.W.Frag} {mg : Str → Option Value} {base : Heap} {D f : Addr} {fd : FuncData} (PS : ProgS P FL) (EC_ : EC K mg "InvalidScope" "InvalidScope.__init__" s_E_InvalidScope ⟨D, "InvalidScope", ["value"]⟩ f fd) :
    FnOk P w K mg base C8.CX0 1 f fd ["self", "value"] (sp_err1 K D "value" "InvalidScope") := by
  have V := EC_.V
  have n1 : PySem.W.findIn K (.ref D) "value" = some none := EC_.ok.attr _ (.head _)
  have n2 : PySem.W.findIn K (.ref D) "code" = some none := EC_.ok.code
  obtain ⟨oc, od, osl, dV, kV, doc, pm, an, cda, ct, cc, bmB, lk, rfl, SF, FB⟩ := V.sup
  refine fn_super (N := ["self", "value", "__class__"]) (k := 0) lk PS SF FB PySem.W.kxs_ValueError ns_E_InvalidScope (by decide +kernel) rfl (fun _ => rfl) (fun _ => rfl) (fun _ => rfl) (fun vs H Q E h => ?_) (fun A outer s H vs Q E hr h => ?_)
  · obtain ⟨a, x, c, rfl, _⟩ := h
    rfl
  · obtain ⟨a, x, c, rfl, ha, hs, hc, k⟩ := h
    have v0 : ∀ i z, i < 2 → (ncx C8.CX0 P w K mg base ["self", "value", "__class__"] (supNF "__init__" "InvalidScope.__init__" (defArgs s_E_InvalidScope) (defBody s_E_InvalidScope) (defScope s_E_InvalidScope) cc cda) f A outer s H E).N[i]? = some z → Vis (defScope s_E_InvalidScope) z := fun i z hi e => by
      match i, hi with
      | 0, _ => cases e; exact .inl (by decide +kernel)
      | 1, _ => cases e; exact .inl (by decide +kernel)
    refine ⟨a, _, _, rfl, ha, pa_cons (pe_joined (.cons (pe_fmtX hr (pe_var (i := 1) rfl (v0 1 _ (by decide) rfl))) (.cons pe_str .nil))) pa_nil, pss_cons (ps_ost (pe_var (i := 0) rfl (v0 0 _ (by decide) rfl)) (pe_var (i := 1) rfl (v0 1 _ (by decide) rfl))) (pss_one (ps_ost (pe_var (i := 0) rfl (v0 0 _ (by decide) rfl)) pe_str)), ?_⟩
    have big : (6000 : Nat) ≤ sizeLine := by decide
    have z1 : (" is not a scope of such a piece" : Str).length ≤ 100 := by decide +kernel
    refine' ⟨x, rfl, c, hs, by omega, fun m hm => ⟨m, rfl, ?l0, _, rfl, ?l1, (by show 1 ≤ 1000; decide), ha, x, rfl, .ref a, rfl, a, D, rfl, V.oex, n1, .inl ⟨ha, fun dx hd hn => ?fin⟩⟩⟩
    (case l0 =>
      show Str.length (Str.empty ++ m) ≤ sizeLine
      rw [strLen_append]
      show 0 + Str.length m ≤ sizeLine
      omega)
    (case l1 =>
      show Str.length (Str.empty ++ m ++ (" is not a scope of such a piece" : Str)) ≤ sizeLine
      rw [strLen_append, strLen_append]
      show 0 + Str.length m + Str.length (" is not a scope of such a piece" : Str) ≤ sizeLine
      omega)
    (case fin =>
      have e2 : upd (upd H dx (exd dx [("value", x)])) a (exo a D (some dx)) dx = some (exd dx [("value", x)]) := by
        rw [upd_ne hn, upd_same]
      exact ⟨.ref a, rfl, a, D, rfl, V.oex, n2, .inr ⟨dx, [("value", x)], upd_same, e2, (by show 1 ≤ 900; decide), k dx hd hn⟩⟩)

theorem ns_E_InvalidRow : NScope ["self", "at", "__class__"] ["self", "at"] ["__class__"] (defScope s_E_InvalidRow) := nscope_by (by decide +kernel)
theorem ok_E_InvalidRow {P : Program} {w : World} {K : PySem.W.Frag} {mg : Str → Option Value} {base : Heap} {D f : Addr} {fd : FuncData} (PS : ProgS P FL) (EC_ : EC K mg "InvalidRow" "InvalidRow.__init__" s_E_InvalidRow ⟨D, "InvalidRow", ["at"]⟩ f fd) :
    FnOk P w K mg base C8.CX0 1 f fd ["self", "at"] (sp_err1 K D "at" "InvalidRow") := by
  have V := EC_.V
  have n1 : PySem.W.findIn K (.ref D) "at" = some none := EC_.ok.attr _ (.head _)
  have n2 : PySem.W.findIn K (.ref D) "code" = some none := EC_.ok.code
  obtain ⟨oc, od, osl, dV, kV, doc, pm, an, cda, ct, cc, bmB, lk, rfl, SF, FB⟩ := V.sup
  refine fn_super (N := ["self", "at", "__class__"]) (k := 0) lk PS SF FB PySem.W.kxs_ValueError ns_E_InvalidRow (by decide +kernel) rfl (fun _ => rfl) (fun _ => rfl) (fun _ => rfl) (fun vs H Q E h => ?_) (fun A outer s H vs Q E hr h => ?_)
  · obtain ⟨a, x, c, rfl, _⟩ := h
    rfl
  · obtain ⟨a, x, c, rfl, ha, hs, hc, k⟩ := h
    have v0 : ∀ i z, i < 2 → (ncx C8.CX0 P w K mg base ["self", "at", "__class__"] (supNF "__init__" "InvalidRow.__init__" (defArgs s_E_InvalidRow) (defBody s_E_InvalidRow) (defScope s_E_InvalidRow) cc cda) f A outer s H E).N[i]? = some z → Vis (defScope s_E_InvalidRow) z := fun i z hi e => by
      match i, hi with
      | 0, _ => cases e; exact .inl (by decide +kernel)
      | 1, _ => cases e; exact .inl (by decide +kernel)
    refine ⟨a, _, _, rfl, ha, pa_cons (pe_joined (.cons pe_str (.cons (pe_fmtX hr (pe_var (i := 1) rfl (v0 1 _ (by decide) rfl))) (.cons pe_str .nil)))) pa_nil, pss_cons (ps_ost (pe_var (i := 0) rfl (v0 0 _ (by decide) rfl)) (pe_var (i := 1) rfl (v0 1 _ (by decide) rfl))) (pss_one (ps_ost (pe_var (i := 0) rfl (v0 0 _ (by decide) rfl)) pe_str)), ?_⟩
    have big : (6000 : Nat) ≤ sizeLine := by decide
    have z0 : ("item " : Str).length ≤ 100 := by decide +kernel
    have z2 : (" is not a row of the part" : Str).length ≤ 100 := by decide +kernel
    refine' ⟨_, rfl, ?l0, x, rfl, c, hs, by omega, fun m hm => ⟨m, rfl, ?l1, _, rfl, ?l2, (by show 1 ≤ 1000; decide), ha, x, rfl, .ref a, rfl, a, D, rfl, V.oex, n1, .inl ⟨ha, fun dx hd hn => ?fin⟩⟩⟩
    (case l0 =>
      show Str.length (Str.empty ++ ("item " : Str)) ≤ sizeLine
      rw [strLen_append]
      show 0 + Str.length ("item " : Str) ≤ sizeLine
      omega)
    (case l1 =>
      show Str.length (Str.empty ++ ("item " : Str) ++ m) ≤ sizeLine
      rw [strLen_append, strLen_append]
      show 0 + Str.length ("item " : Str) + Str.length m ≤ sizeLine
      omega)
    (case l2 =>
      show Str.length (Str.empty ++ ("item " : Str) ++ m ++ (" is not a row of the part" : Str)) ≤ sizeLine
      rw [strLen_append, strLen_append, strLen_append]
      show 0 + Str.length ("item " : Str) + Str.length m + Str.length (" is not a row of the part" : Str) ≤ sizeLine
      omega)
    (case fin =>
      have e2 : upd (upd H dx (exd dx [("at", x)])) a (exo a D (some dx)) dx = some (exd dx [("at", x)]) := by
        rw [upd_ne hn, upd_same]
      exact ⟨.ref a, rfl, a, D, rfl, V.oex, n2, .inr ⟨dx, [("at", x)], upd_same, e2, (by show 1 ≤ 900; decide), k dx hd hn⟩⟩)

theorem ns_E_TooMany : NScope ["self", "most", "__class__"] ["self", "most"] ["__class__"] (defScope s_E_TooMany) := nscope_by (by decide +kernel)
theorem ok_E_TooMany {P : Program} {w : World} {K : PySem.W.Frag} {mg : Str → Option Value} {base : Heap} {D f : Addr} {fd : FuncData} (PS : ProgS P FL) (EC_ : EC K mg "TooMany" "TooMany.__init__" s_E_TooMany ⟨D, "TooMany", ["most"]⟩ f fd) :
    FnOk P w K mg base C8.CX0 1 f fd ["self", "most"] (sp_err1 K D "most" "TooMany") := by
  have V := EC_.V
  have n1 : PySem.W.findIn K (.ref D) "most" = some none := EC_.ok.attr _ (.head _)
  have n2 : PySem.W.findIn K (.ref D) "code" = some none := EC_.ok.code
  obtain ⟨oc, od, osl, dV, kV, doc, pm, an, cda, ct, cc, bmB, lk, rfl, SF, FB⟩ := V.sup
  refine fn_super (N := ["self", "most", "__class__"]) (k := 0) lk PS SF FB PySem.W.kxs_ValueError ns_E_TooMany (by decide +kernel) rfl (fun _ => rfl) (fun _ => rfl) (fun _ => rfl) (fun vs H Q E h => ?_) (fun A outer s H vs Q E hr h => ?_)
  · obtain ⟨a, x, c, rfl, _⟩ := h
    rfl
  · obtain ⟨a, x, c, rfl, ha, hs, hc, k⟩ := h
    have v0 : ∀ i z, i < 2 → (ncx C8.CX0 P w K mg base ["self", "most", "__class__"] (supNF "__init__" "TooMany.__init__" (defArgs s_E_TooMany) (defBody s_E_TooMany) (defScope s_E_TooMany) cc cda) f A outer s H E).N[i]? = some z → Vis (defScope s_E_TooMany) z := fun i z hi e => by
      match i, hi with
      | 0, _ => cases e; exact .inl (by decide +kernel)
      | 1, _ => cases e; exact .inl (by decide +kernel)
    refine ⟨a, _, _, rfl, ha, pa_cons (pe_joined (.cons pe_str (.cons (pe_fmtX hr (pe_var (i := 1) rfl (v0 1 _ (by decide) rfl))) .nil))) pa_nil, pss_cons (ps_ost (pe_var (i := 0) rfl (v0 0 _ (by decide) rfl)) (pe_var (i := 1) rfl (v0 1 _ (by decide) rfl))) (pss_one (ps_ost (pe_var (i := 0) rfl (v0 0 _ (by decide) rfl)) pe_str)), ?_⟩
    have big : (6000 : Nat) ≤ sizeLine := by decide
    have z0 : ("there are more than " : Str).length ≤ 100 := by decide +kernel
    refine' ⟨_, rfl, ?l0, x, rfl, c, hs, by omega, fun m hm => ⟨m, rfl, ?l1, (by show 1 ≤ 1000; decide), ha, x, rfl, .ref a, rfl, a, D, rfl, V.oex, n1, .inl ⟨ha, fun dx hd hn => ?fin⟩⟩⟩
    (case l0 =>
      show Str.length (Str.empty ++ ("there are more than " : Str)) ≤ sizeLine
      rw [strLen_append]
      show 0 + Str.length ("there are more than " : Str) ≤ sizeLine
      omega)
    (case l1 =>
      show Str.length (Str.empty ++ ("there are more than " : Str) ++ m) ≤ sizeLine
      rw [strLen_append, strLen_append]
      show 0 + Str.length ("there are more than " : Str) + Str.length m ≤ sizeLine
      omega)
    (case fin =>
      have e2 : upd (upd H dx (exd dx [("most", x)])) a (exo a D (some dx)) dx = some (exd dx [("most", x)]) := by
        rw [upd_ne hn, upd_same]
      exact ⟨.ref a, rfl, a, D, rfl, V.oex, n2, .inr ⟨dx, [("most", x)], upd_same, e2, (by show 1 ≤ 900; decide), k dx hd hn⟩⟩)

theorem ns_E_NotClosing : NScope ["self", "__class__"] ["self"] ["__class__"] (defScope s_E_NotClosing) := nscope_by (by decide +kernel)
theorem ok_E_NotClosing {P : Program} {w : World} {K : PySem.W.Frag} {mg : Str → Option Value} {base : Heap} {D f : Addr} {fd : FuncData} (PS : ProgS P FL) (EC_ : EC K mg "NotClosing" "NotClosing.__init__" s_E_NotClosing ⟨D, "NotClosing", []⟩ f fd) :
    FnOk P w K mg base C8.CX0 1 f fd ["self"] (sp_err0 K D "NotClosing") := by
  have V := EC_.V
  have n2 : PySem.W.findIn K (.ref D) "code" = some none := EC_.ok.code
  obtain ⟨oc, od, osl, dV, kV, doc, pm, an, cda, ct, cc, bmB, lk, rfl, SF, FB⟩ := V.sup
  refine fn_super (N := ["self", "__class__"]) (k := 0) lk PS SF FB PySem.W.kxs_ValueError ns_E_NotClosing (by decide +kernel) rfl (fun _ => rfl) (fun _ => rfl) (fun _ => rfl) (fun vs H Q E h => ?_) (fun A outer s H vs Q E hr h => ?_)
  · obtain ⟨a, rfl, _⟩ := h
    rfl
  · obtain ⟨a, rfl, ha, k⟩ := h
    have v0 : ∀ i z, i < 1 → (ncx C8.CX0 P w K mg base ["self", "__class__"] (supNF "__init__" "NotClosing.__init__" (defArgs s_E_NotClosing) (defBody s_E_NotClosing) (defScope s_E_NotClosing) cc cda) f A outer s H E).N[i]? = some z → Vis (defScope s_E_NotClosing) z := fun i z hi e => by
      match i, hi with
      | 0, _ => cases e; exact .inl (by decide +kernel)
    refine ⟨a, _, _, rfl, ha, pa_cons pe_str pa_nil, pss_one (ps_ost (pe_var (i := 0) rfl (v0 0 _ (by decide) rfl)) pe_str), ?_⟩
    have big : (6000 : Nat) ≤ sizeLine := by decide
    exact ⟨(by show 1 ≤ 1000; decide), ha, .ref a, rfl, a, D, rfl, V.oex, n2, .inl ⟨ha, fun dx hd hn => k dx hd hn⟩⟩


/-! ### the older view of a value (Okv): the rows proved for it serve Dt, too -/
theorem iteN {p A B : Prop} [Decidable p] (h : ¬ p) (q : B) : if decide p = true then A else B := by
  rw [decide_eq_false h]
  exact iteF q
theorem iteY {p A B : Prop} [Decidable p] (h : p) (q : A) : if decide p = true then A else B := by
  rw [decide_eq_true h]
  exact iteT q
theorem Same.put {H H' : Hp} {p : Addr} {o : HO} (s : Same H H') (h : H p = none) : Same H (upd H' p o) := fun a u e => by
  rw [upd_ne (ne_of_none e h)]
  exact s a u e
def flatT : V → String
  | .bl _ => "bool"
  | .int _ => "int"
  | .str _ => "str"
  | _ => "NoneType"
theorem tyx_f {K : PySem.W.Frag} {H : Hp} {x : V} (h : flatV x = true) : TyX K H x (.type (flatT x)) := by
  cases x with
  | non => exact .base .non
  | bl b => exact .base (.bl b)
  | int i => exact .base (.int i)
  | str z => exact .base (.str z)
  | _ => cases h
theorem walk_zipT {K : PySem.W.Frag} {a b : Addr} {xs ys : List V} {n : Nat} (hn : n = min xs.length ys.length) : Walk (RZ.ItzT K a b) n (fun H => SqT K H a xs ∧ SqT K H b ys) (YPair (fun i => xs[i]?) (fun i => ys[i]?)) := by
  subst hn
  refine ⟨fun i _ hi q => ?_, fun _ q => ⟨xs, ys, q.1, q.2, by omega⟩, fun i H v H' _ q y => ?_⟩
  · have h1 : i < xs.length := by omega
    have h2 : i < ys.length := by omega
    exact ⟨xs, ys, xs[i], ys[i], q.1, q.2, by simp [h1], by simp [h2]⟩
  · obtain ⟨T, x, z, h1, h2, h3, h4, h5⟩ := y
    exact ⟨T, x, z, h1, h2, h3, h4 xs q.1, h5 ys q.2⟩
theorem Same.sqT {K : PySem.W.Frag} {H H' : Hp} {a : Addr} {xs : List V} (e : Same H H') (h : SqT K H a xs) : SqT K H' a xs := Go.tS e h
theorem all_rep (n : Nat) : (List.replicate n true).all id = true := Go.all_rep n
/-- a value of data, n deep at most, none of whose lists is the bag -/
def Okv (K : PySem.W.Frag) (H : Hp) (b : Addr) : Nat → V → Prop
  | 0, v => flatV v = true ∧ ∀ z, v = .str z → StrK z
  | n + 1, v => (flatV v = true ∧ ∀ z, v = .str z → StrK z) ∨ ∃ (a : Addr) (xs : List V), v = .ref a ∧ a ≠ b ∧ (SqL K H a xs ∨ SqT K H a xs) ∧ xs.length ≤ 100000 ∧ ∀ x ∈ xs, Okv K H b n x
theorem Okv.stp {K : PySem.W.Frag} {H H' : Hp} {b : Addr} (s : Stp b H H') : ∀ {n : Nat} {v : V}, Okv K H b n v → Okv K H' b n v
  | 0, _, h => h
  | n + 1, _, .inl h => .inl h
  | n + 1, _, .inr ⟨a, xs, e, ne, h, hl, hx⟩ => .inr ⟨a, xs, e, ne, h.imp (s.sqL ne) (s.sqT ne), hl, fun x m => (hx x m).stp s⟩
theorem Okv.of_flat {K : PySem.W.Frag} {H : Hp} {b : Addr} {n : Nat} {v : V} (h : flatV v = true) (hz : ∀ z, v = .str z → StrK z) : Okv K H b n v := by
  cases n with
  | zero => exact ⟨h, hz⟩
  | succ n => exact .inl ⟨h, hz⟩
theorem Okv.non {K : PySem.W.Frag} {H : Hp} {b : Addr} {n : Nat} : Okv K H b n .non := .of_flat rfl (fun _ e => nomatch e)
theorem Okv.bl {K : PySem.W.Frag} {H : Hp} {b : Addr} {n : Nat} {k : Bool} : Okv K H b n (.bl k) := .of_flat rfl (fun _ e => nomatch e)
theorem Okv.int {K : PySem.W.Frag} {H : Hp} {b : Addr} {n : Nat} {i : Int} : Okv K H b n (.int i) := .of_flat rfl (fun _ e => nomatch e)
theorem Okv.str {K : PySem.W.Frag} {H : Hp} {b : Addr} {n : Nat} {z : Str} (h : StrK z) : Okv K H b n (.str z) := .of_flat rfl (fun _ e => by cases e; exact h)
/-- what kind it is -/
def isS : V → Bool
  | .str _ => true
  | _ => false
def isB : V → Bool
  | .bl _ => true
  | _ => false
def isI : V → Bool
  | .int _ => true
  | .bl _ => true
  | _ => false
theorem Okv.ty {K : PySem.W.Frag} {H : Hp} {b : Addr} {n : Nat} {v : V} (h : Okv K H b n v) : ∃ t, TyX K H v t ∧ PySem.W.kitOne K t (.type "str") = some (isS v) ∧ PySem.W.kitOne K t (.type "bool") = some (isB v) ∧ PySem.W.kitOne K t (.type "int") = some (isI v) := by
  have fl : flatV v = true → ∃ t, TyX K H v t ∧ PySem.W.kitOne K t (.type "str") = some (isS v) ∧ PySem.W.kitOne K t (.type "bool") = some (isB v) ∧ PySem.W.kitOne K t (.type "int") = some (isI v) := fun hf => by
    cases v with
    | non => exact ⟨_, .base .non, kit_ty (by decide +kernel), kit_ty (by decide +kernel), kit_ty (by decide +kernel)⟩
    | bl k => exact ⟨_, .base (.bl k), kit_ty (show kitB "bool" "str" = some false by decide +kernel), kit_ty (show kitB "bool" "bool" = some true by decide +kernel), kit_ty (show kitB "bool" "int" = some true by decide +kernel)⟩
    | int i => exact ⟨_, .base (.int i), kit_ty (show kitB "int" "str" = some false by decide +kernel), kit_ty (show kitB "int" "bool" = some false by decide +kernel), kit_ty (show kitB "int" "int" = some true by decide +kernel)⟩
    | str z => exact ⟨_, .base (.str z), kit_ty (show kitB "str" "str" = some true by decide +kernel), kit_ty (show kitB "str" "bool" = some false by decide +kernel), kit_ty (show kitB "str" "int" = some false by decide +kernel)⟩
    | _ => cases hf
  cases n with
  | zero => exact fl h.1
  | succ n =>
    rcases h with h | ⟨a, xs, rfl, _, h | h, _⟩
    · exact fl h.1
    · exact ⟨_, tyx_l h, kit_ty (show kitB "list" "str" = some false by decide +kernel), kit_ty (show kitB "list" "bool" = some false by decide +kernel), kit_ty (show kitB "list" "int" = some false by decide +kernel)⟩
    · exact ⟨_, tyx_t h, kit_ty (show kitB "tuple" "str" = some false by decide +kernel), kit_ty (show kitB "tuple" "bool" = some false by decide +kernel), kit_ty (show kitB "tuple" "int" = some false by decide +kernel)⟩
theorem Okv.strK {K : PySem.W.Frag} {H : Hp} {b : Addr} {n : Nat} {z : Str} (h : Okv K H b n (.str z)) : StrK z := by
  cases n with
  | zero => exact h.2 z rfl
  | succ n =>
    rcases h with h | ⟨a, xs, e, _⟩
    · exact h.2 z rfl
    · cases e
theorem Okv.short {K : PySem.W.Frag} {H : Hp} {b : Addr} {n : Nat} {z : Str} (h : Okv K H b n (.str z)) : z.cps.size ≤ 100000 := h.strK.1
theorem isS_of {v : V} (h : isS v = true) : ∃ z, v = .str z := by
  cases v with
  | str z => exact ⟨z, rfl⟩
  | _ => cases h
/-! ### names and numbers, as plain functions -/
def inL (c : Nat) : Bool := decide (97 ≤ c) && decide (c ≤ 122)
def nmV : V → Bool
  | .str z => decide (1 ≤ z.cps.size) && decide (z.cps.size ≤ 6) && z.cps.toList.all inL
  | _ => false
def numV (v : V) (lo hi : Int) : Bool := match v with
  | .int i => decide (lo ≤ i) && decide (i ≤ hi)
  | _ => false
def regs : List V := [.str "r0", .str "r1", .str "r2"]
def regV (v : V) : Bool := isS v && inV v regs
theorem lt_sign (c d : Nat) : (([c] : List Nat) < [d]) ↔ c < d := by
  constructor
  · intro h
    cases h with
    | rel h => exact h
    | cons h => cases h
  · intro h
    exact .rel h
theorem le_sign (c d : Nat) : (!decide (([c] : List Nat) < [d])) = decide (d ≤ c) := by
  rw [Bool.eq_iff_iff]
  simp [lt_sign]
theorem cps_a : ("a" : Str).cps.toList = [97] := by decide +kernel
theorem cps_z : ("z" : Str).cps.toList = [122] := by decide +kernel
theorem cps_abc : ("abcdefghijklmnopqrstuvwxyz" : Str).cps.toList = List.range' 97 26 := by decide +kernel
theorem in_abc (c : Nat) : decide (c ∈ ("abcdefghijklmnopqrstuvwxyz" : Str).cps.toList) = inL c := by
  rw [cps_abc, Bool.eq_iff_iff]
  simp [inL, List.mem_range'_1]
  omega
/-- what holds of each answer, told ahead: any extension, then the answer -/
theorem take_snoc {α β : Type} (f : α → β) {l : List α} {i : Nat} {x : α} (h : l[i]? = some x) : (l.take (i + 1)).map f = (l.take i).map f ++ [f x] := by
  rw [List.take_add_one, h, List.map_append]
  rfl

mutual
theorem Dt.okv {K : PySem.W.Frag} {H : Hp} {b : Addr} : ∀ {n : Nat} {v : V} {d : PyData}, Dt K H b v d → dep d ≤ n → Okv K H b n v
  | _, _, _, .non, _ => .non
  | _, _, _, .bl _, _ => .bl
  | _, _, _, .int _, _ => .int
  | _, _, _, .str h, _ => .str h
  | 0, _, _, .lst _ _ _ _, z => absurd z (by simp [dep])
  | n + 1, _, _, .lst h ne l r, z => .inr ⟨_, _, rfl, ne, .inl h, l, DtA.okv r (by simp [dep] at z; omega)⟩
  | 0, _, _, .tup _ _ _ _, z => absurd z (by simp [dep])
  | n + 1, _, _, .tup h ne l r, z => .inr ⟨_, _, rfl, ne, .inr h, l, DtA.okv r (by simp [dep] at z; omega)⟩
theorem DtA.okv {K : PySem.W.Frag} {H : Hp} {b : Addr} : ∀ {n : Nat} {vs : List V} {ds : List PyData}, DtA K H b vs ds → depA ds ≤ n → ∀ x ∈ vs, Okv K H b n x
  | _, _, _, .nil, _ => fun x m => nomatch m
  | n, _, _, .cons h r, z => fun x m => by
    simp [depA] at z
    rcases List.mem_cons.mp m with rfl | m
    · exact Dt.okv h (by omega)
    · exact DtA.okv r (by omega) x m
end

section
variable {P : Program} {w : World} {K : PySem.W.Frag} {mg : Str → Option Value} {base : Heap} {Z : Fs}
/-! ### is_name -/
def sp_is_name (K : PySem.W.Frag) : Sp := fun vs H Q _ => ∃ (v : V) (b : Addr) (n : Nat), vs = [v] ∧ Okv K H b n v ∧ ∀ H' : Hp, Same H H' → Q (.bl (nmV v)) H'
theorem ok_is_name (T : Txt K w mg Z) : FnOk P w K mg base CX0 1 Z.a_is_name Z.d_is_name ["value"] (sp_is_name K) := by
  refine T.F_is_name.ok sc_is_name (fun vs H Q E h => ?_) (fun cdv A outer s H vs Q E hr h => ?_)
  · obtain ⟨v, b, n, rfl, _⟩ := h
    rfl
  · obtain ⟨v, b, n, rfl, ok, k⟩ := h
    refine ⟨_, (pss_cons (ps_if (PW.pt (pw_or (pt_not (pt_val (pe_callB (call_isi : CallR _ _ (rIsi K)) (by rfl) T.n_isinstance boot_isinstance (pa_cons (pv 0) (pa_cons (pe_bltn (v := .ty "str") (by rfl) T.n_str boot_str rfl) pa_nil))))) (pw_or1 (pt_not (pt_chain op_le op_le pe_int (pe_callB (Go.c_len : CallR _ _ (Go.RLen K)) (by rfl) T.n_len boot_len (pa_cons (pv 0) pa_nil)) (pe_glob (v := .int 6) (by rfl) (Classical.choose_spec T.g_MOST_LETTERS) ⟨_, rfl⟩)))))) (pss_one (ps_ret pe_bl)) pss_nil)
      (pss_one (ps_ret (pe_callB (cr_all rfl) (by rfl) T.n_all boot_all (pa_cons (pe_lc (own := [("letter", 1)]) (g := gName 1) (tt := tYes) rfl sc_is_name.nd (pi_str (pv 0)) (blkOk_by (N := N_is_name) (sc := defScope s_is_name) (by decide +kernel)) (fun _ _ _ _ _ => pg_name (i := 1) sc_is_name.nd rfl (Or.inl rfl)) (fun _ _ _ _ _ => pts_nil) (fun _ _ _ _ _ => (pe_chain op_le_str op_le_str pe_str (pv 1) pe_str))) pa_nil))))), ?_⟩
    obtain ⟨t, ty, kS, _, _⟩ := ok.ty
    refine ⟨v, rfl, v, .ty "str", t, _, _, rfl, .ty _, ty, kS, _, rfl, ?_⟩
    cases hv : isS v with
    | false =>
      refine iteT ?_
      have e : nmV v = false := by
        cases v with
        | str z => cases hv
        | _ => rfl
      show Q (.bl false) H
      rw [← e]
      exact k _ (Same.refl _)
    | true =>
      obtain ⟨z, rfl⟩ := isS_of hv
      refine iteF ?_
      refine ⟨.str z, rfl, .str z, z.cps.size, rfl, ⟨Nat.le_trans ok.short (by decide), rfl⟩, _, _, rfl, rfl, _, rfl, ite2 (fun h1 => ?_) (fun h1 => ?_)⟩
      · have h1' : 1 ≤ z.cps.size := by
          have q := of_decide_eq_true h1
          omega
        refine ⟨_, _, rfl, rfl, _, rfl, ?_⟩
        refine ite2 (fun h2 => ?_) (fun h2 => ?_)
        · have e : nmV (.str z) = false := by
            have q : ¬ z.cps.size ≤ 6 := by
              simp at h2
              omega
            simp [nmV, q]
          show Q (.bl false) H
          rw [← e]
          exact k _ (Same.refl _)
        · have q : z.cps.size ≤ 6 := by
            simp at h2
            omega
          refine ⟨.str z, rfl, z, rfl, fun D hD => ?_⟩
          refine lc_it (walk_str (z := z)) (fun i H' => Same H H' ∧ H' D = some (.lst (((z.cps.toList.take i).map inL).map V.bl))) ⟨Same.new hD, upd_same⟩ (fun _ _ _ _ => True.intro) ?_ ?_
          · rintro i v H2 H3 hi ⟨s2, e2⟩ ⟨rfl, c, hc, rfl⟩
            have hc' : z.cps.toList[i]? = some c := by simpa using hc
            refine ⟨rfl, .str ⟨#[c]⟩, rfl, "a", ⟨#[c]⟩, rfl, rfl, _, rfl, ite2 (fun h3 => ?_) (fun h3 => ?_)⟩
            · refine ⟨⟨#[c]⟩, "z", rfl, rfl, _, e2, ?_, Same.put s2 hD, ?_⟩
              · rw [List.length_map, List.length_map, List.length_take]
                exact Nat.lt_of_le_of_lt (Nat.min_le_left _ _) (Nat.lt_of_lt_of_le hi (Nat.le_trans ok.short (by decide)))
              · rw [upd_same, take_snoc inL hc', List.map_append]
                rw [cps_a, le_sign] at h3
                rw [cps_z]
                have e : (!decide (([122] : List Nat) < (⟨#[c]⟩ : Str).cps.toList)) = inL c := by
                  show (!decide (([122] : List Nat) < [c])) = inL c
                  rw [le_sign]
                  simp only [inL]
                  rw [h3]
                  rfl
                rw [e]
                rfl
            · refine ⟨_, e2, ?_, Same.put s2 hD, ?_⟩
              · rw [List.length_map, List.length_map, List.length_take]
                exact Nat.lt_of_le_of_lt (Nat.min_le_left _ _) (Nat.lt_of_lt_of_le hi (Nat.le_trans ok.short (by decide)))
              · rw [upd_same, take_snoc inL hc', List.map_append]
                rw [cps_a, le_sign] at h3
                have e : false = inL c := by
                  have h4 : decide (97 ≤ c) = false := by simpa using h3
                  simp only [inL]
                  rw [h4]
                  rfl
                rw [← e]
                rfl
          · rintro H' ⟨s2, e2⟩
            refine ⟨D, _, rfl, SqL.of e2, ?_⟩
            have e : ((z.cps.toList.take z.cps.size).map inL).all id = nmV (.str z) := by
              rw [List.take_of_length_le (by simp)]
              simp [nmV, h1', q, List.all_map]
            rw [e]
            exact k _ s2
      · refine ⟨_, rfl, iteT ?_⟩
        have e : nmV (.str z) = false := by
          have q : ¬ 1 ≤ z.cps.size := fun q => h1 (decide_eq_true (by omega))
          simp [nmV, q]
        show Q (.bl false) H
        rw [← e]
        exact k _ (Same.refl _)
end

section
variable {P : Program} {w : World} {K : PySem.W.Frag} {mg : Str → Option Value} {base : Heap} {Z : Fs}
def sp_is_register (K : PySem.W.Frag) : Sp := fun vs H Q _ => ∃ (v : V) (b : Addr) (n : Nat), vs = [v] ∧ Okv K H b n v ∧ ∀ H' : Hp, Same H H' → Q (.bl (regV v)) H'
theorem ok_is_register (T : Txt K w mg Z) : FnOk P w K mg base CX0 1 Z.a_is_register Z.d_is_register ["value"] (sp_is_register K) := by
  refine T.F_is_register.ok sc_is_register (fun vs H Q E h => ?_) (fun cdv A outer s H vs Q E hr h => ?_)
  · obtain ⟨v, b, n, rfl, _⟩ := h
    rfl
  · obtain ⟨v, b, n, rfl, ok, k⟩ := h
    refine ⟨_, (pss_one (ps_ret (pe_and (pe_callB (call_isi : CallR _ _ (rIsi K)) (by rfl) T.n_isinstance boot_isinstance (pa_cons (pv 0) (pa_cons (pe_bltn (v := .ty "str") (by rfl) T.n_str boot_str rfl) pa_nil))) (pe_one (pe_cmpR (op_in_seq : OpR _ _ (rIn K false)) (pv 0) (pe_glob (v := .ref Z.c_REGISTERS) (by rfl) T.g_REGISTERS rfl) (by rfl)))))), ?_⟩
    obtain ⟨t, ty, kS, _, _⟩ := ok.ty
    refine ⟨v, rfl, v, .ty "str", t, _, _, rfl, .ty _, ty, kS, _, rfl, ?_⟩
    cases hv : isS v with
    | false =>
      refine iteF ?_
      have e : regV v = false := by simp [regV, hv]
      rw [← e]
      exact k _ (Same.refl _)
    | true =>
      refine iteT ?_
      obtain ⟨z, rfl⟩ := isS_of hv
      refine ⟨.str z, rfl, _, regs, rfl, .inr (T.v_REGISTERS H), rfl, rfl, ?_⟩
      have e : regV (.str z) = inV (.str z) regs := by simp [regV, isS]
      show Q (.bl (inV (.str z) regs)) H
      rw [← e]
      exact k _ (Same.refl _)
end

section
variable {P : Program} {w : World} {K : PySem.W.Frag} {mg : Str → Option Value} {base : Heap} {Z : Fs}
def sp_is_numberO (K : PySem.W.Frag) : Sp := fun vs H Q _ => ∃ (v : V) (lo hi : Int) (b : Addr) (n : Nat), vs = [v, .int lo, .int hi] ∧ Okv K H b n v ∧ ∀ H' : Hp, Same H H' → Q (.bl (numV v lo hi)) H'
theorem ok_is_numberO (T : Txt K w mg Z) : FnOk P w K mg base CX0 1 Z.a_is_number Z.d_is_number ["value", "least", "most"] (sp_is_numberO K) := by
  refine T.F_is_number.ok sc_is_number (fun vs H Q E h => ?_) (fun cdv A outer s H vs Q E hr h => ?_)
  · obtain ⟨v, lo, hi, b, n, rfl, _⟩ := h
    rfl
  · obtain ⟨v, lo, hi, b, n, rfl, ok, k⟩ := h
    refine ⟨_, (pss_cons (ps_if (PW.pt (pw_or (pt_val (pe_callB (call_isi : CallR _ _ (rIsi K)) (by rfl) T.n_isinstance boot_isinstance (pa_cons (pv 0) (pa_cons (pe_bltn (v := .ty "bool") (by rfl) T.n_bool boot_bool rfl) pa_nil)))) (pw_or1 (pt_not (pt_val (pe_callB (call_isi : CallR _ _ (rIsi K)) (by rfl) T.n_isinstance boot_isinstance (pa_cons (pv 0) (pa_cons (pe_bltn (v := .ty "int") (by rfl) T.n_int boot_int rfl) pa_nil)))))))) (pss_one (ps_ret pe_bl)) pss_nil)
      (pss_one (ps_ret (pe_chain op_le op_le (pv 1) (pv 0) (pv 2))))), ?_⟩
    obtain ⟨t, ty, _, kB, kI⟩ := ok.ty
    refine ⟨v, rfl, v, .ty "bool", t, _, _, rfl, .ty _, ty, kB, _, rfl, ?_⟩
    have no : (∀ i, v ≠ .int i) → Q (.bl false) H := fun hn => by
      have e : numV v lo hi = false := by
        cases v with
        | int i => exact absurd rfl (hn i)
        | _ => rfl
      rw [← e]
      exact k _ (Same.refl _)
    cases hb : isB v with
    | true =>
      refine iteT (iteT (no fun i e => ?_))
      rw [e] at hb
      cases hb
    | false =>
      refine iteF ?_
      refine ⟨v, rfl, v, .ty "int", t, _, _, rfl, .ty _, ty, kI, _, rfl, ?_⟩
      cases hi' : isI v with
      | false =>
        refine iteT (no fun i e => ?_)
        rw [e] at hi'
        cases hi'
      | true =>
        refine iteF ?_
        obtain ⟨i, rfl⟩ : ∃ i, v = .int i := by
          cases v with
          | int i => exact ⟨i, rfl⟩
          | bl _ => cases hb
          | _ => cases hi'
        refine ⟨.int lo, rfl, .int i, rfl, _, _, rfl, rfl, _, rfl, ite2 (fun h1 => ?_) (fun h1 => ?_)⟩
        · refine ⟨.int hi, rfl, _, _, rfl, rfl, ?_⟩
          have e : numV (.int i) lo hi = decide (i ≤ hi) := by simp [numV, of_decide_eq_true h1]
          show Q (.bl (decide (i ≤ hi))) H
          rw [← e]
          exact k _ (Same.refl _)
        · have e : numV (.int i) lo hi = false := by
            have q : ¬ lo ≤ i := fun q => h1 (decide_eq_true q)
            simp [numV, q]
          show Q (.bl false) H
          rw [← e]
          exact k _ (Same.refl _)
end

/-! ### rows judged, as plain functions -/
def kindsL : List Str := ["R", "N", "n", "d", "k"]
def bnd (q : Str) : Int × Int := if q = "n" then (0, 65535) else if q = "d" then (0, 15) else (1, 120)
def fitV (q : Str) (x : V) : Bool := if q = "R" then regV x else if q = "N" then nmV x else numV x (bnd q).1 (bnd q).2
def fitA (xs : List V) (ks : List Str) : Bool := decide (xs.length = ks.length) && (List.zipWith fitV ks xs).all id
/-- the string of a kind -/
def kst (ks : List Str) : List V := ks.map V.str
/-- a value that is a tuple of xs, or none -/
def Tp (K : PySem.W.Frag) (H : Hp) (b : Addr) (n : Nat) (v : V) : Option (List V) → Prop
  | some xs => ∃ a, v = .ref a ∧ SqT K H a xs ∧ xs.length ≤ 100000 ∧ ∀ x ∈ xs, Okv K H b n x
  | none => ∃ t, TyX K H v t ∧ PySem.W.kitOne K t (.type "tuple") = some false
theorem TyX.same {K : PySem.W.Frag} {H H' : Hp} {v : V} {t : Value} (s : Same H H') (h : TyX K H v t) : TyX K H' v t := by
  cases h with
  | base h =>
    cases h with
    | non => exact .base .non
    | bl x => exact .base (.bl x)
    | int i => exact .base (.int i)
    | str x => exact .base (.str x)
    | flt x => exact .base (.flt x)
    | lst e => exact .base (.lst (s _ _ e))
    | frz e => exact .base (.frz (s _ _ e))
    | tup e => exact .base (.tup (s _ _ e))
    | dK e => exact .base (.dK (s _ _ e))
    | dT e => exact .base (.dT (s _ _ e))
    | ins e cl ha hn htk hm => exact .base (.ins (s _ _ e) cl ha hn htk hm)
  | byt b => exact .byt b
  | set e => exact .set (s _ _ e)
  | kList e c => exact .kList e c
  | kTuple e c => exact .kTuple e c
  | kDict e c => exact .kDict e c
  | fTuple e => exact .fTuple (s _ _ e)
  | fDict e => exact .fDict (s _ _ e)
theorem Tp.same {K : PySem.W.Frag} {H H' : Hp} {b : Addr} {n : Nat} {v : V} {o : Option (List V)} (s : Same H H') (h : Tp K H b n v o) : Tp K H' b n v o := by
  cases o with
  | some xs =>
    obtain ⟨a, e, h1, h2, h3⟩ := h
    exact ⟨a, e, Same.sqT s h1, h2, fun x m => (h3 x m).stp (Same.stp s)⟩
  | none =>
    obtain ⟨t, h1, h2⟩ := h
    exact ⟨t, TyX.same s h1, h2⟩
theorem Okv.tp {K : PySem.W.Frag} {H : Hp} {b : Addr} {n : Nat} {v : V} (h : Okv K H b (n + 1) v) : ∃ o, Tp K H b n v o := by
  rcases h with ⟨hf, _⟩ | ⟨a, xs, rfl, _, h | h, hl, hx⟩
  · refine ⟨none, ?_⟩
    cases v with
    | non => exact ⟨_, .base .non, kit_ty (by decide +kernel)⟩
    | bl k => exact ⟨_, .base (.bl k), kit_ty (show kitB "bool" "tuple" = some false by decide +kernel)⟩
    | int i => exact ⟨_, .base (.int i), kit_ty (show kitB "int" "tuple" = some false by decide +kernel)⟩
    | str z => exact ⟨_, .base (.str z), kit_ty (show kitB "str" "tuple" = some false by decide +kernel)⟩
    | _ => cases hf
  · exact ⟨none, _, tyx_l h, kit_ty (by decide +kernel)⟩
  · exact ⟨some xs, a, rfl, h, hl, hx⟩
/-- the word that a tuple begins with -/
def hdS : Option (List V) → Str
  | some (.str u :: _) => u
  | _ => ""
def tlS : Option (List V) → List V
  | some (_ :: r) => r
  | _ => []
def kS : List V → List Str
  | [] => []
  | .str z :: r => z :: kS r
  | _ :: r => kS r
def codeO (o : Option (List V)) : Bool := match findT tb_CODE_ROWS (hdS o) with
  | some ks => fitA (tlS o) (kS ks)
  | none => false
def dataO (o : Option (List V)) : Bool := match findT tb_DATA_ROWS (hdS o) with
  | some ks => fitA (tlS o) (kS ks)
  | none => false
theorem code_kinds {z : Str} {ks : List V} (h : findT tb_CODE_ROWS z = some ks) : ks = kst (kS ks) ∧ (∀ q ∈ kS ks, q ∈ kindsL) ∧ (kS ks).length ≤ 10 ∧ z ≠ "" := by
  unfold findT at h
  cases e : tb_CODE_ROWS.find? (fun p => decide (p.1 = z)) with
  | none => rw [e] at h; cases h
  | some p =>
    rw [e] at h
    have hm := List.mem_of_find?_eq_some e
    have hz : p.1 = z := of_decide_eq_true (List.find?_some (p := fun p : Str × List V => decide (p.1 = z)) e)
    have hk : p.2 = ks := Option.some.inj h
    subst hz hk
    have all : ∀ p ∈ tb_CODE_ROWS, p.2 = kst (kS p.2) ∧ (∀ q ∈ kS p.2, q ∈ kindsL) ∧ (kS p.2).length ≤ 10 ∧ p.1 ≠ "" := by decide +kernel
    exact all p hm
theorem data_kinds {z : Str} {ks : List V} (h : findT tb_DATA_ROWS z = some ks) : ks = kst (kS ks) ∧ (∀ q ∈ kS ks, q ∈ kindsL) ∧ (kS ks).length ≤ 10 ∧ z ≠ "" := by
  unfold findT at h
  cases e : tb_DATA_ROWS.find? (fun p => decide (p.1 = z)) with
  | none => rw [e] at h; cases h
  | some p =>
    rw [e] at h
    have hm := List.mem_of_find?_eq_some e
    have hz : p.1 = z := of_decide_eq_true (List.find?_some (p := fun p : Str × List V => decide (p.1 = z)) e)
    have hk : p.2 = ks := Option.some.inj h
    subst hz hk
    have all : ∀ p ∈ tb_DATA_ROWS, p.2 = kst (kS p.2) ∧ (∀ q ∈ kS p.2, q ∈ kindsL) ∧ (kS p.2).length ≤ 10 ∧ p.1 ≠ "" := by decide +kernel
    exact all p hm
theorem relO_d {α : Type} {R : α → Value → Prop} {v : Option α} {r : Option Value} (h : RelOpt R v r) : r.isSome = v.isSome ∧ ∀ i, v = some i → ∃ u, r = some u ∧ R i u := by
  cases v with
  | none =>
    cases r with
    | none => exact ⟨rfl, fun i e => nomatch e⟩
    | some u => exact h.elim
  | some i =>
    cases r with
    | none => exact h.elim
    | some u => exact ⟨rfl, fun j e => by cases e; exact ⟨u, rfl, h⟩⟩
theorem cut_tl (x : V) (r : List V) : cutV (x :: r) (some 1) none = r := by
  unfold cutV
  rw [show HT.sIx (x :: r).length 0 (some 1) = min 1 (x :: r).length from HT.sIx_nat _ 0 1, HT.sIx_none]
  rw [show min 1 (x :: r).length = 1 by rw [List.length_cons]; omega]
  show (r.take ((x :: r).length - 1)) = r
  rw [List.length_cons, Nat.add_sub_cancel, List.take_length]
section
variable {P : Program} {w : World} {K : PySem.W.Frag} {mg : Str → Option Value} {base : Heap} {Z : Fs}
/-! ### _fits, _fit -/
def sp_fits (K : PySem.W.Frag) : Sp := fun vs H Q _ => ∃ (x : V) (q : Str) (b : Addr) (n : Nat), vs = [x, .str q] ∧ Okv K H b n x ∧ q ∈ kindsL ∧ ∀ H' : Hp, Same H H' → Q (.bl (fitV q x)) H'
theorem ok_fits (T : Txt K w mg Z) : FnOk P w K mg base CX0 2 Z.a_fits Z.d_fits ["item", "kind"] (sp_fits K) := by
  have G_is_register : FnOk P w K mg base CX0 1 Z.a_is_register Z.d_is_register ["value"] (sp_is_register K) := ok_is_register T
  have G_is_name : FnOk P w K mg base CX0 1 Z.a_is_name Z.d_is_name ["value"] (sp_is_name K) := ok_is_name T
  have G_is_number : FnOk P w K mg base CX0 1 Z.a_is_number Z.d_is_number ["value", "least", "most"] (sp_is_numberO K) := ok_is_numberO T
  refine T.F_fits.ok sc_fits (fun vs H Q E h => ?_) (fun cdv A outer s H vs Q E hr h => ?_)
  · obtain ⟨x, q, b, n, rfl, _⟩ := h
    rfl
  · obtain ⟨x, q, b, n, rfl, ok, hq, k⟩ := h
    refine ⟨_, (pss_cons (ps_if (pt_cmpR op_eq (pv 1) pe_str (nomark _)) (pss_one (ps_ret (pe_call G_is_register (hr.mono (by omega)) (by rfl) T.m_is_register T.F_is_register.kp T.b_is_register .nil pass0 (pa_cons (pv 0) pa_nil)))) pss_nil)
      (pss_cons (ps_if (pt_cmpR op_eq (pv 1) pe_str (nomark _)) (pss_one (ps_ret (pe_call G_is_name (hr.mono (by omega)) (by rfl) T.m_is_name T.F_is_name.kp T.b_is_name .nil pass0 (pa_cons (pv 0) pa_nil)))) pss_nil)
      (pss_cons (ps_asg (pe_ix ix_kdict (pe_glob (v := .ref Z.c_BOUNDS) (by rfl) T.g_BOUNDS rfl) (pv 1) (fun _ _ => rfl)) (pg_tup (by rfl) (pgs_cons (pg_name (i := 2) sc_fits.nd rfl (Or.inl rfl)) (pgs_cons (pg_name (i := 3) sc_fits.nd rfl (Or.inl rfl)) pgs_nil))))
      (pss_one (ps_ret (pe_call G_is_number (hr.mono (by omega)) (by rfl) T.m_is_number T.F_is_number.kp T.b_is_number .nil pass0 (pa_cons (pv 0) (pa_cons (pv 2) (pa_cons (pv 3) pa_nil))))))))), ?_⟩
    refine ⟨.str q, rfl, rfl, _, rfl, ite2 (fun h1 => ?_) (fun h1 => ?_)⟩
    · have e1 : q = "R" := V.str.inj (of_decide_eq_true h1)
      refine ⟨x, rfl, x, b, n, rfl, ok, fun H' s' => ?_⟩
      have e : fitV q x = regV x := by
        unfold fitV
        rw [if_pos e1]
      rw [← e]
      exact k _ s'
    have e1 : q ≠ "R" := fun e => h1 (decide_eq_true (by rw [e]))
    refine ⟨.str q, rfl, rfl, _, rfl, ite2 (fun h2 => ?_) (fun h2 => ?_)⟩
    · have e2 : q = "N" := V.str.inj (of_decide_eq_true h2)
      refine ⟨x, rfl, x, b, n, rfl, ok, fun H' s' => ?_⟩
      have e : fitV q x = nmV x := by
        unfold fitV
        rw [if_neg e1, if_pos e2]
      rw [← e]
      exact k _ s'
    have e2 : q ≠ "N" := fun e => h2 (decide_eq_true (by rw [e]))
    obtain ⟨r, q1, q2⟩ := T.x_BOUNDS q
    obtain ⟨_, i2⟩ := relO_d q2
    have hb : findT tb_BOUNDS q = some [.int (bnd q).1, .int (bnd q).2] := by
      have all : ∀ q ∈ kindsL, q ≠ "R" → q ≠ "N" → findT tb_BOUNDS q = some [.int (bnd q).1, .int (bnd q).2] := by decide +kernel
      exact all q hq e1 e2
    obtain ⟨u, rfl, t, rfl, ht⟩ := i2 _ hb
    refine ⟨.str q, rfl, _, q, .ref t, rfl, rfl, ⟨_, _, _, T.D_BOUNDS.at_, T.D_BOUNDS.lit, q1, rfl⟩, t, _, rfl, ht H, rfl, _, _, rfl, _, _, rfl, rfl, ?_⟩
    refine ⟨x, rfl, _, rfl, _, rfl, x, _, _, b, n, rfl, ok, fun H' s' => ?_⟩
    have e : fitV q x = numV x (bnd q).1 (bnd q).2 := by
      unfold fitV
      rw [if_neg e1, if_neg e2]
    rw [← e]
    exact k _ s'
def sp_fit (K : PySem.W.Frag) : Sp := fun vs H Q _ => ∃ (a c : Addr) (xs : List V) (ks : List Str) (b : Addr) (n : Nat), vs = [.ref a, .ref c] ∧ SqT K H a xs ∧ SqT K H c (kst ks) ∧ (∀ x ∈ xs, Okv K H b n x) ∧ (∀ q ∈ ks, q ∈ kindsL) ∧ ks.length ≤ 10 ∧ ∀ H' : Hp, Same H H' → Q (.bl (fitA xs ks)) H'
theorem ok_fit (T : Txt K w mg Z) : FnOk P w K mg base CX0 3 Z.a_fit Z.d_fit ["items", "kinds"] (sp_fit K) := by
  have G_fits : FnOk P w K mg base CX0 2 Z.a_fits Z.d_fits ["item", "kind"] (sp_fits K) := ok_fits T
  refine T.F_fit.ok sc_fit (fun vs H Q E h => ?_) (fun cdv A outer s H vs Q E hr h => ?_)
  · obtain ⟨a, c, xs, ks, b, n, rfl, _⟩ := h
    rfl
  · obtain ⟨a, c, xs, ks, b, n, rfl, hx, hc, ok, hk, hl, k⟩ := h
    refine ⟨_, (pss_cons (ps_if (pt_cmpR op_ne (pe_callB (Go.c_len : CallR _ _ (Go.RLen K)) (by rfl) T.n_len boot_len (pa_cons (pv 0) pa_nil)) (pe_callB (Go.c_len : CallR _ _ (Go.RLen K)) (by rfl) T.n_len boot_len (pa_cons (pv 1) pa_nil)) (nomark _)) (pss_one (ps_ret pe_bl)) pss_nil)
      (pss_one (ps_ret (pe_callB (cr_all rfl) (by rfl) T.n_all boot_all (pa_cons (pe_lc (own := [("item", 2), ("kind", 3)]) (g := gTup K 2 (gCons (gName 2) (gCons (gName 3) gNil))) (tt := tYes) rfl sc_fit.nd (RZ.pi_zipA (by rfl) T.n_zip (pa_cons (pv 0) (pa_cons (pv 1) pa_nil))) (blkOk_by (N := N_fit) (sc := defScope s_fit) (by decide +kernel)) (fun _ _ _ _ _ => pg_tup rfl (pgs_cons (pg_name (i := 2) sc_fit.nd rfl (Or.inl rfl)) (pgs_cons (pg_name (i := 3) sc_fit.nd rfl (Or.inl rfl)) pgs_nil))) (fun _ _ _ _ _ => pts_nil) (fun _ _ _ _ _ => (pe_call G_fits (hr.mono (by omega)) (by rfl) T.m_fits T.F_fits.kp T.b_fits .nil pass0 (pa_cons (pv 2) (pa_cons (pv 3) pa_nil))))) pa_nil))))), ?_⟩
    refine ⟨.ref a, rfl, .ref a, xs.length, rfl, .inr ⟨_, hx, rfl⟩, .ref c, rfl, .ref c, (kst ks).length, rfl, .inr ⟨_, hc, rfl⟩, rfl, _, rfl, ?_⟩
    have lk : (kst ks).length = ks.length := List.length_map ..
    by_cases he : xs.length = ks.length
    · have e0 : (!decide (V.int (xs.length : Int) = V.int ((kst ks).length : Int))) = false := by simp [lk, he]
      rw [e0]
      refine iteF ⟨.ref a, rfl, .ref c, rfl, a, c, xs, kst ks, rfl, .inr ⟨hx, hc, fun D hD => ?_⟩⟩
      refine lc_it (walk_zipT (K := K) (xs := xs) (ys := kst ks) (n := xs.length) (by omega)) (fun i H' => Same H H' ∧ H' D = some (.lst (((List.zipWith fitV ks xs).take i).map V.bl))) ⟨Same.new hD, upd_same⟩ (fun i H' _ q => ⟨Same.sqT q.1 hx, Same.sqT q.1 hc⟩) ?_ ?_
      · rintro i v H2 H3 hi' ⟨s2, e2⟩ ⟨T', u, t, rfl, hT, rfl, hu, ht⟩
        obtain ⟨q, hq, rfl⟩ : ∃ q, ks[i]? = some q ∧ t = .str q := by
          have ht : (kst ks)[i]? = some t := ht
          unfold kst at ht
          rw [List.getElem?_map] at ht
          cases e : ks[i]? with
          | none => rw [e] at ht; cases ht
          | some q => rw [e] at ht; exact ⟨q, rfl, (Option.some.inj ht).symm⟩
        have hu : xs[i]? = some u := hu
        refine ⟨T', [u, .str q], rfl, SqT.of upd_same, rfl, u, [.str q], rfl, .str q, [], rfl, rfl, rfl, u, rfl, .str q, rfl, u, q, b, n, rfl, ((ok u (List.mem_of_getElem? hu)).stp (Same.stp s2)).stp (Stp.new hT), hk q (List.mem_of_getElem? hq), fun H4 s4 => ?_⟩
        have nDT : D ≠ T' := ne_of_none e2 hT
        refine ⟨_, s4 _ _ (by rw [upd_ne nDT]; exact e2), ?_, Same.put ((s2.trans (Same.new hT)).trans s4) hD, ?_⟩
        · rw [List.length_map, List.length_take]
          exact Nat.lt_of_le_of_lt (Nat.min_le_left _ _) (Nat.lt_of_lt_of_le hi' (Nat.le_trans (show xs.length ≤ 10 by omega) (by decide)))
        · have hz : (List.zipWith fitV ks xs)[i]? = some (fitV q u) := by
            rw [List.getElem?_zipWith, hq, hu]
          rw [upd_same, List.take_add_one, hz, List.map_append]
          rfl
      · rintro H' ⟨s2, e2⟩
        refine ⟨D, _, rfl, SqL.of e2, ?_⟩
        have e : ((List.zipWith fitV ks xs).take xs.length).all id = fitA xs ks := by
          rw [List.take_of_length_le (by rw [List.length_zipWith]; omega)]
          unfold fitA
          rw [decide_eq_true he, Bool.true_and]
        rw [e]
        exact k _ s2
    · have e0 : (!decide (V.int (xs.length : Int) = V.int ((kst ks).length : Int))) = true := by
        rw [lk]
        simp
        omega
      rw [e0]
      refine iteT ?_
      have e : fitA xs ks = false := by
        unfold fitA
        rw [decide_eq_false he, Bool.false_and]
      show Q (.bl false) H
      rw [← e]
      exact k _ (Same.refl _)
/-! ### _word_of, is_code_row, is_data_row -/
def sp_word_of (K : PySem.W.Frag) : Sp := fun vs H Q _ => ∃ (v : V) (b : Addr) (n : Nat) (o : Option (List V)), vs = [v] ∧ Tp K H b n v o ∧ ∀ H' : Hp, Same H H' → Q (.str (hdS o)) H'
theorem ok_word_of (T : Txt K w mg Z) : FnOk P w K mg base CX0 1 Z.a_word_of Z.d_word_of ["value"] (sp_word_of K) := by
  refine T.F_word_of.ok sc_word_of (fun vs H Q E h => ?_) (fun cdv A outer s H vs Q E hr h => ?_)
  · obtain ⟨v, b, n, o, rfl, _⟩ := h
    rfl
  · obtain ⟨v, b, n, o, rfl, tp, k⟩ := h
    refine ⟨_, (pss_cons (ps_if (PW.pt (pw_and (pt_val (pe_callB (call_isi : CallR _ _ (rIsi K)) (by rfl) T.n_isinstance boot_isinstance (pa_cons (pv 0) (pa_cons (pe_bltn (v := .ty "tuple") (by rfl) T.n_tuple boot_tuple rfl) pa_nil)))) (pw_and (pt_cmpR op_gt (pe_callB (Go.c_len : CallR _ _ (Go.RLen K)) (by rfl) T.n_len boot_len (pa_cons (pv 0) pa_nil)) pe_int (nomark _)) (pw_and1 (pt_val (pe_callB (call_isi : CallR _ _ (rIsi K)) (by rfl) T.n_isinstance boot_isinstance (pa_cons (pe_ix (ix_tup : IxR _ (rIxT K)) (pv 0) pe_int (fun _ _ => rfl)) (pa_cons (pe_bltn (v := .ty "str") (by rfl) T.n_str boot_str rfl) pa_nil)))))))) (pss_one (ps_ret (pe_ix (ix_tup : IxR _ (rIxT K)) (pv 0) pe_int (fun _ _ => rfl)))) pss_nil)
      (pss_one (ps_ret pe_str))), ?_⟩
    cases o with
    | none =>
      obtain ⟨t, ty, kt⟩ := tp
      exact ⟨v, rfl, v, .ty "tuple", t, _, _, rfl, .ty _, ty, kt, _, rfl, iteF (iteF (k _ (Same.refl _)))⟩
    | some xs =>
      obtain ⟨a, rfl, hx, hl, ok⟩ := tp
      refine ⟨.ref a, rfl, .ref a, .ty "tuple", _, _, true, rfl, .ty _, tyx_t hx, kit_ty (by decide +kernel), _, rfl, iteT ?_⟩
      refine ⟨.ref a, rfl, .ref a, xs.length, rfl, .inr ⟨_, hx, rfl⟩, _, _, rfl, rfl, _, rfl, ?_⟩
      cases xs with
      | nil => exact iteF (iteF (k _ (Same.refl _)))
      | cons x r =>
        refine iteY (by simp) ?_
        obtain ⟨t, ty, kS', _, _⟩ := (ok x (List.mem_cons_self ..)).ty
        refine ⟨.ref a, rfl, a, _, 0, x, rfl, rfl, hx, atI_nat (j := 0) rfl, x, .ty "str", t, _, _, rfl, .ty _, ty, kS', _, rfl, ?_⟩
        cases hv : isS x with
        | true =>
          obtain ⟨z, rfl⟩ := isS_of hv
          exact iteT ⟨.ref a, rfl, a, _, 0, .str z, rfl, rfl, hx, atI_nat (j := 0) rfl, k _ (Same.refl _)⟩
        | false =>
          refine iteF ?_
          have e : hdS (some (x :: r)) = "" := by
            cases x with
            | str z => cases hv
            | _ => rfl
          show Q (.str "") H
          rw [← e]
          exact k _ (Same.refl _)
def sp_is_code_row (K : PySem.W.Frag) : Sp := fun vs H Q _ => ∃ (v : V) (b : Addr) (n : Nat) (o : Option (List V)), vs = [v] ∧ Tp K H b n v o ∧ ∀ H' : Hp, Same H H' → Q (.bl (codeO o)) H'
theorem hd_some {o : Option (List V)} (h : hdS o ≠ "") : ∃ r, o = some (.str (hdS o) :: r) ∧ tlS o = r := by
  match o, h with
  | some (.str u :: r), _ => exact ⟨r, rfl, rfl⟩
  | some [], h => exact absurd rfl h
  | none, h => exact absurd rfl h
  | some (.non :: _), h => exact absurd rfl h
  | some (.bl _ :: _), h => exact absurd rfl h
  | some (.int _ :: _), h => exact absurd rfl h
  | some (.byt _ :: _), h => exact absurd rfl h
  | some (.flt _ :: _), h => exact absurd rfl h
  | some (.ref _ :: _), h => exact absurd rfl h
  | some (.ty _ :: _), h => exact absurd rfl h
theorem ok_is_code_row (T : Txt K w mg Z) : FnOk P w K mg base CX0 4 Z.a_is_code_row Z.d_is_code_row ["value"] (sp_is_code_row K) := by
  have G_word_of : FnOk P w K mg base CX0 1 Z.a_word_of Z.d_word_of ["value"] (sp_word_of K) := ok_word_of T
  have G_fit : FnOk P w K mg base CX0 3 Z.a_fit Z.d_fit ["items", "kinds"] (sp_fit K) := ok_fit T
  refine T.F_is_code_row.ok sc_is_code_row (fun vs H Q E h => ?_) (fun cdv A outer s H vs Q E hr h => ?_)
  · obtain ⟨v, b, n, o, rfl, _⟩ := h
    rfl
  · obtain ⟨v, b, n, o, rfl, tp, k⟩ := h
    refine ⟨_, (pss_cons (ps_set (i := 1) sc_is_code_row.nd rfl (Or.inl rfl) (pe_call G_word_of (hr.mono (by omega)) (by rfl) T.m_word_of T.F_word_of.kp T.b_word_of .nil pass0 (pa_cons (pv 0) pa_nil)))
      (pss_one (ps_ret (pe_and (pe_cmpR (op_in_kd T.D_CODE_ROWS) (pv 1) (pe_glob (v := .ref Z.c_CODE_ROWS) (by rfl) T.g_CODE_ROWS rfl) (by rfl)) (pe_one (pe_call G_fit (hr.mono (by omega)) (by rfl) T.m_fit T.F_fit.kp T.b_fit .nil pass0 (pa_cons (pe_slice (sl_tup : SlR _ (rSlT K)) (pv 0) (po_some pe_int) po_none) (pa_cons (pe_ix ix_kdict (pe_glob (v := .ref Z.c_CODE_ROWS) (by rfl) T.g_CODE_ROWS rfl) (pv 1) (fun _ _ => rfl)) pa_nil)))))))), ?_⟩
    refine ⟨v, rfl, v, b, n, o, rfl, tp, fun H1 s1 => ?_⟩
    obtain ⟨r, q1, q2⟩ := T.x_CODE_ROWS (hdS o)
    obtain ⟨i1, i2⟩ := relO_d q2
    refine ⟨_, rfl, _, r, rfl, rfl, q1, _, rfl, ?_⟩
    rw [i1]
    cases hf : findT tb_CODE_ROWS (hdS o) with
    | none =>
      refine iteF ?_
      have e : codeO o = false := by
        unfold codeO
        rw [hf]
      rw [← e]
      exact k _ s1
    | some ks =>
      refine iteT ?_
      obtain ⟨c1, c2, c3, c4⟩ := code_kinds hf
      obtain ⟨rr, ho, htl⟩ := hd_some c4
      obtain ⟨u, rfl, t, rfl, ht⟩ := i2 _ hf
      rw [ho] at tp
      obtain ⟨a, rfl, hx, hl, ok⟩ := tp
      refine ⟨.ref a, rfl, 1, rfl, a, _, rfl, Same.sqT s1 hx, ?_, fun p hp => ?_⟩
      · rintro ⟨z, _⟩
        rw [show HT.sIx (V.str (hdS o) :: rr).length 0 (some 1) = min 1 (V.str (hdS o) :: rr).length from HT.sIx_nat _ 0 1, List.length_cons] at z
        omega
      · rw [cut_tl]
        have s2 : Same H1 (upd H1 p (.tup rr)) := Same.new hp
        have e2 : (upd H1 p (.tup rr)) p = some (.tup rr) := upd_same
        generalize upd H1 p (.tup rr) = H2 at s2 e2 ⊢
        refine ⟨_, rfl, _, hdS o, .ref t, rfl, rfl, ⟨_, _, _, T.D_CODE_ROWS.at_, T.D_CODE_ROWS.lit, q1, rfl⟩, p, t, rr, kS ks, b, n, rfl, SqT.of e2, (by rw [← c1]; exact ht H2), fun x m => ((ok x (List.mem_cons_of_mem _ m)).stp (Same.stp s1)).stp (Same.stp s2), c2, c3, fun H3 s3 => ?_⟩
        have e : codeO o = fitA rr (kS ks) := by
          unfold codeO
          rw [hf, htl]
        rw [← e]
        exact k _ ((s1.trans s2).trans s3)
def sp_is_data_row (K : PySem.W.Frag) : Sp := fun vs H Q _ => ∃ (v : V) (b : Addr) (n : Nat) (o : Option (List V)), vs = [v] ∧ Tp K H b n v o ∧ ∀ H' : Hp, Same H H' → Q (.bl (dataO o)) H'
theorem ok_is_data_row (T : Txt K w mg Z) : FnOk P w K mg base CX0 4 Z.a_is_data_row Z.d_is_data_row ["value"] (sp_is_data_row K) := by
  have G_word_of : FnOk P w K mg base CX0 1 Z.a_word_of Z.d_word_of ["value"] (sp_word_of K) := ok_word_of T
  have G_fit : FnOk P w K mg base CX0 3 Z.a_fit Z.d_fit ["items", "kinds"] (sp_fit K) := ok_fit T
  refine T.F_is_data_row.ok sc_is_data_row (fun vs H Q E h => ?_) (fun cdv A outer s H vs Q E hr h => ?_)
  · obtain ⟨v, b, n, o, rfl, _⟩ := h
    rfl
  · obtain ⟨v, b, n, o, rfl, tp, k⟩ := h
    refine ⟨_, (pss_cons (ps_set (i := 1) sc_is_data_row.nd rfl (Or.inl rfl) (pe_call G_word_of (hr.mono (by omega)) (by rfl) T.m_word_of T.F_word_of.kp T.b_word_of .nil pass0 (pa_cons (pv 0) pa_nil)))
      (pss_one (ps_ret (pe_and (pe_cmpR (op_in_kd T.D_DATA_ROWS) (pv 1) (pe_glob (v := .ref Z.c_DATA_ROWS) (by rfl) T.g_DATA_ROWS rfl) (by rfl)) (pe_one (pe_call G_fit (hr.mono (by omega)) (by rfl) T.m_fit T.F_fit.kp T.b_fit .nil pass0 (pa_cons (pe_slice (sl_tup : SlR _ (rSlT K)) (pv 0) (po_some pe_int) po_none) (pa_cons (pe_ix ix_kdict (pe_glob (v := .ref Z.c_DATA_ROWS) (by rfl) T.g_DATA_ROWS rfl) (pv 1) (fun _ _ => rfl)) pa_nil)))))))), ?_⟩
    refine ⟨v, rfl, v, b, n, o, rfl, tp, fun H1 s1 => ?_⟩
    obtain ⟨r, q1, q2⟩ := T.x_DATA_ROWS (hdS o)
    obtain ⟨i1, i2⟩ := relO_d q2
    refine ⟨_, rfl, _, r, rfl, rfl, q1, _, rfl, ?_⟩
    rw [i1]
    cases hf : findT tb_DATA_ROWS (hdS o) with
    | none =>
      refine iteF ?_
      have e : dataO o = false := by
        unfold dataO
        rw [hf]
      rw [← e]
      exact k _ s1
    | some ks =>
      refine iteT ?_
      obtain ⟨c1, c2, c3, c4⟩ := data_kinds hf
      obtain ⟨rr, ho, htl⟩ := hd_some c4
      obtain ⟨u, rfl, t, rfl, ht⟩ := i2 _ hf
      rw [ho] at tp
      obtain ⟨a, rfl, hx, hl, ok⟩ := tp
      refine ⟨.ref a, rfl, 1, rfl, a, _, rfl, Same.sqT s1 hx, ?_, fun p hp => ?_⟩
      · rintro ⟨z, _⟩
        rw [show HT.sIx (V.str (hdS o) :: rr).length 0 (some 1) = min 1 (V.str (hdS o) :: rr).length from HT.sIx_nat _ 0 1, List.length_cons] at z
        omega
      · rw [cut_tl]
        have s2 : Same H1 (upd H1 p (.tup rr)) := Same.new hp
        have e2 : (upd H1 p (.tup rr)) p = some (.tup rr) := upd_same
        generalize upd H1 p (.tup rr) = H2 at s2 e2 ⊢
        refine ⟨_, rfl, _, hdS o, .ref t, rfl, rfl, ⟨_, _, _, T.D_DATA_ROWS.at_, T.D_DATA_ROWS.lit, q1, rfl⟩, p, t, rr, kS ks, b, n, rfl, SqT.of e2, (by rw [← c1]; exact ht H2), fun x m => ((ok x (List.mem_cons_of_mem _ m)).stp (Same.stp s1)).stp (Same.stp s2), c2, c3, fun H3 s3 => ?_⟩
        have e : dataO o = fitA rr (kS ks) := by
          unfold dataO
          rw [hf, htl]
        rw [← e]
        exact k _ ((s1.trans s2).trans s3)
end

/-! ### the older view of what is drawn: of a text, too -/
section
variable {P : Program} {w : World} {K : PySem.W.Frag} {mg : Str → Option Value} {base : Heap} {Z : Fs}
def Thg (K : PySem.W.Frag) (H : Hp) (b : Addr) (t : V) (Pt : V → Prop) : Prop := (∃ z : Str, t = .str z ∧ 0 < z.cps.size ∧ z.cps.size ≤ 100000 ∧ ∀ c ∈ z.cps.toList, Pt (.str ⟨#[c]⟩)) ∨ ∃ (a : Addr) (xs : List V), t = .ref a ∧ a ≠ b ∧ SqL K H a xs ∧ 0 < xs.length ∧ xs.length ≤ 100000 ∧ ∀ v ∈ xs, Pt v
def sp_law_ofO (K : PySem.W.Frag) : Sp := fun vs H Q _ => ∃ (b l : Addr) (t : V) (Pt : V → Prop), vs = [.ref b, t] ∧ Bag H b l ∧ Thg K H b t Pt ∧ ∀ (H' : Hp) (v : V), Stp b H H' → Bag H' b l → Pt v → Q v H'
theorem ok_law_ofO (T : Txt K w mg Z) : FnOk P w K mg base CX0 2 Z.a_law_of Z.d_law_of ["_law_bag_here", "_law_things"] (sp_law_ofO K) := by
  have G_law_draw : FnOk P w K mg base CX0 1 Z.a_law_draw Z.d_law_draw ["_law_bag_here", "_law_sides"] sp_law_draw := ok_law_draw T
  refine T.F_law_of.ok sc_law_of (fun vs H Q E h => ?_) (fun cdv A outer s H vs Q E hr h => ?_)
  · obtain ⟨b, l, t, Pt, rfl, _⟩ := h
    rfl
  · obtain ⟨b, l, t, Pt, rfl, B, ht, k⟩ := h
    refine ⟨_, (pss_one (ps_ret (pe_ix ix_seq (pv 1) (pe_call G_law_draw (hr.mono (by omega)) (by rfl) T.m_law_draw T.F_law_draw.kp T.b_law_draw .nil pass0 (pa_cons (pv 0) (pa_cons (pe_callB (Go.c_len : CallR _ _ (Go.RLen K)) (by rfl) T.n_len boot_len (pa_cons (pv 1) pa_nil)) pa_nil))) (fun _ _ => rfl)))), ?_⟩
    rcases ht with ⟨z, rfl, z0, z1, hz⟩ | ⟨a, xs, rfl, nab, hx, x0, x1, hv⟩
    · refine ⟨_, rfl, .ref b, rfl, .str z, rfl, .str z, z.cps.size, rfl, ⟨Nat.le_trans z1 (by decide), rfl⟩, b, l, _, rfl, B, by omega, by omega, fun H' v s1 B1 v0 v1 => ?_⟩
      obtain ⟨c, hc, hm⟩ := mem_at (xs := z.cps.toList) v0 (by simpa using v1)
      exact .inr (.inr ⟨z, v, c, rfl, rfl, Nat.le_trans z1 (by decide), hc, k _ _ s1 B1 (hz c hm)⟩)
    · refine ⟨_, rfl, .ref b, rfl, .ref a, rfl, .ref a, xs.length, rfl, .inl ⟨_, hx, rfl⟩, b, l, _, rfl, B, by omega, by omega, fun H' v s1 B1 v0 v1 => ?_⟩
      obtain ⟨c, hc, hm⟩ := mem_at (xs := xs) v0 v1
      exact .inl ⟨a, xs, v, c, rfl, rfl, s1.sqL nab hx, hc, k _ _ s1 B1 (hv c hm)⟩
end

/-! ### texts of drawn signs -/
theorem joinL_ones : ∀ cs : List Nat, TL.joinL [] (cs.map fun c => [c]) = cs
  | [] => rfl
  | [_] => rfl
  | c :: d :: r => by
    show [c] ++ ([] ++ TL.joinL [] ((d :: r).map fun c => [c])) = c :: d :: r
    rw [joinL_ones (d :: r)]
    rfl
theorem join_ones (cs : List Nat) : Txt.join ("" : Str) (cs.map fun c => (⟨#[c]⟩ : Str)) = ⟨cs.toArray⟩ := by
  have e : ("" : Str) = SX.S [] := by decide +kernel
  have e2 : (cs.map fun c => (⟨#[c]⟩ : Str)) = (cs.map fun c => [c]).map SX.S := by
    rw [List.map_map]
    rfl
  rw [e, e2, SX.join_S, joinL_ones]
theorem len_ones : ∀ cs : List Nat, ((cs.map fun c => (⟨#[c]⟩ : Str)).map (·.length)).sum = cs.length
  | [] => rfl
  | c :: r => by
    rw [List.map_cons, List.map_cons, List.sum_cons, len_ones r, List.length_cons]
    show 1 + r.length = r.length + 1
    omega
theorem strK_of {cs : List Nat} (hl : cs.length ≤ 100000) (h : ∀ c ∈ cs, c < 1114112) : StrK (⟨cs.toArray⟩ : Str) := ⟨by simpa using hl, by simpa using h⟩
theorem Okv.lst0 {K : PySem.W.Frag} {H : Hp} {b a : Addr} {n : Nat} {xs : List V} (ne : a ≠ b) (h : SqL K H a xs) (hl : xs.length ≤ 100000) (hx : ∀ x ∈ xs, Okv K H b n x) : Okv K H b (n + 1) (.ref a) := .inr ⟨a, xs, rfl, ne, .inl h, hl, hx⟩
theorem Okv.tup0 {K : PySem.W.Frag} {H : Hp} {b a : Addr} {n : Nat} {xs : List V} (ne : a ≠ b) (h : SqT K H a xs) (hl : xs.length ≤ 100000) (hx : ∀ x ∈ xs, Okv K H b n x) : Okv K H b (n + 1) (.ref a) := .inr ⟨a, xs, rfl, ne, .inr h, hl, hx⟩
theorem mem1 {α : Type} {P : α → Prop} {x : α} (h : P x) : ∀ y ∈ [x], P y := fun y m => by
  rw [List.mem_singleton.mp m]
  exact h
theorem mema {α : Type} {P : α → Prop} {l r : List α} (h : ∀ y ∈ l, P y) (t : ∀ y ∈ r, P y) : ∀ y ∈ l ++ r, P y := fun y m => by
  rcases List.mem_append.mp m with m | m
  · exact h y m
  · exact t y m
/-- a written text -/
theorem Okv.lit {K : PySem.W.Frag} {H : Hp} {b : Addr} {n : Nat} {z : Str} (h : (decide (z.cps.size ≤ 100000) && z.cps.toList.all fun c => decide (c < 1114112)) = true) : Okv K H b n (.str z) := by
  rw [Bool.and_eq_true] at h
  refine .str ⟨of_decide_eq_true h.1, fun c m => ?_⟩
  have q := List.all_eq_true.mp h.2 c m
  exact of_decide_eq_true q
/-- such a text drawn from -/
theorem Thg.lit {K : PySem.W.Frag} {H : Hp} {b : Addr} {z : Str} (h : (decide (0 < z.cps.size) && decide (z.cps.size ≤ 100000) && z.cps.toList.all fun c => decide (c < 1114112)) = true) : Thg K H b (.str z) (fun v => ∃ c, v = .str ⟨#[c]⟩ ∧ c < 1114112) := by
  rw [Bool.and_eq_true, Bool.and_eq_true] at h
  exact .inl ⟨z, rfl, of_decide_eq_true h.1.1, of_decide_eq_true h.1.2, fun c m => ⟨c, rfl, of_decide_eq_true (List.all_eq_true.mp h.2 c m)⟩⟩
theorem Thg.lst {K : PySem.W.Frag} {H : Hp} {b a : Addr} {xs : List V} {Pt : V → Prop} (ne : a ≠ b) (h : SqL K H a xs) (h0 : 0 < xs.length) (hl : xs.length ≤ 100000) (hx : ∀ v ∈ xs, Pt v) : Thg K H b (.ref a) Pt := .inr ⟨a, xs, rfl, ne, h, h0, hl, hx⟩

/-! ### list of a text -/
theorem call_list_str1 {X : Cx} (hc : X.calm = true) : CallR X (.type "list") (fun xs H Q => ∃ z : Str, xs = [.str z] ∧ z.cps.size ≤ sizeLine ∧ ∀ p, H p = none → Q (.ref p) (upd H p (.lst (z.cps.toList.map fun c => V.str ⟨#[c]⟩)))) := by
  intro pins s σ H xs us Q I r h
  obtain ⟨z, rfl, hz, q⟩ := h
  obtain ⟨u, rfl, t, rfl⟩ := vals1 r
  refine PySem.call_list_str (I.ok.hd hc) z t (fun h' tk acc' c' hk hS' hacc => ?_) hz
  have rv : Vals (z.cps.toList.map fun c => V.str ⟨#[c]⟩) acc'.toList := vals_of_idx _ _ (by simpa using hacc.1) fun j u hj => by
    obtain ⟨c, t2, hc2, rfl⟩ := hacc.2 j u (by simpa using hj)
    exact ⟨.str ⟨#[c]⟩, by simp [hc2], ⟨t2, rfl⟩⟩
  exact ⟨.ref s.heap.objs.size, _, I.laid (t' := tk) hk (Nat.le_refl _) (show ObjOk X.prog X.w _ h' _ (.lst _) from ⟨by simpa using hz, acc'.toList, c', rv, by simpa using hS'⟩), rfl, q _ (I.hok.fresh (Nat.le_refl _))⟩

/-! ### names and rows, as data -/
def Nm (z : Str) : Prop := 1 ≤ z.cps.size ∧ z.cps.size ≤ 6 ∧ z.cps.toList.all inL = true
theorem Nm.strK {z : Str} (h : Nm z) : StrK z := ⟨by have := h.2.1; omega, fun c m => by
  have q := List.all_eq_true.mp h.2.2 c m
  simp only [inL, Bool.and_eq_true, decide_eq_true_eq] at q
  omega⟩
/-- a code row; ts the names it may have -/
inductive CRow (ts : List Str) : List V → Prop where
  | put {r : V} {n : Int} (hr : r ∈ regs) (h0 : 0 ≤ n) (h1 : n ≤ 65535) : CRow ts [.str "put", r, .int n]
  | name {r : V} {t : Str} (hr : r ∈ regs) (ht : t ∈ ts) : CRow ts [.str "name", r, .str t]
  | ifzero {r : V} {t : Str} (hr : r ∈ regs) (ht : t ∈ ts) : CRow ts [.str "ifzero", r, .str t]
  | add {r s : V} (hr : r ∈ regs) (hs : s ∈ regs) : CRow ts [.str "add", r, s]
  | take {r s : V} (hr : r ∈ regs) (hs : s ∈ regs) : CRow ts [.str "take", r, s]
  | load {r s : V} {d : Int} (hr : r ∈ regs) (hs : s ∈ regs) (h0 : 0 ≤ d) (h1 : d ≤ 15) : CRow ts [.str "load", r, s, .int d]
  | store {r s : V} {d : Int} (hr : r ∈ regs) (hs : s ∈ regs) (h0 : 0 ≤ d) (h1 : d ≤ 15) : CRow ts [.str "store", r, s, .int d]
  | jump {t : Str} (ht : t ∈ ts) : CRow ts [.str "jump", .str t]
  | call {t : Str} (ht : t ∈ ts) : CRow ts [.str "call", .str t]
  | callby {r : V} (hr : r ∈ regs) : CRow ts [.str "callby", r]
  | out {r : V} (hr : r ∈ regs) : CRow ts [.str "out", r]
  | back : CRow ts [.str "back"]
  | halt : CRow ts [.str "halt"]
  | room {k : Int} (h0 : 1 ≤ k) (h1 : k ≤ 120) : CRow ts [.str "room", .int k]
/-- a data row -/
inductive DRow (ts : List Str) : List V → Prop where
  | word {n : Int} (h0 : 0 ≤ n) (h1 : n ≤ 65535) : DRow ts [.str "word", .int n]
  | address {t : Str} (ht : t ∈ ts) : DRow ts [.str "address", .str t]
  | room {k : Int} (h0 : 1 ≤ k) (h1 : k ≤ 120) : DRow ts [.str "room", .int k]
theorem Stp.putnew {b p : Addr} {H H' : Hp} {o : HO} (s : Stp b H H') (h : H p = none) : Stp b H (upd H' p o) := fun a u n e => by
  rw [upd_ne (ne_of_none e h)]
  exact s a u n e
theorem cut_to {cs : List Nat} {k : Int} (h : 0 ≤ k) : cutS (⟨cs.toArray⟩ : Str) none (some k) = ⟨(cs.take k.toNat).toArray⟩ := (C8.cutS_slice _ _ _).trans (SX.slice_to h)
theorem cut_from {cs : List Nat} {k : Int} (h : 0 ≤ k) : cutS (⟨cs.toArray⟩ : Str) (some k) none = ⟨(cs.drop k.toNat).toArray⟩ := (C8.cutS_slice _ _ _).trans (SX.slice_from h)
theorem cat_S (a b : List Nat) : (⟨a.toArray⟩ : Str) ++ (⟨b.toArray⟩ : Str) = ⟨(a ++ b).toArray⟩ := SX.S_cat a b
theorem len_S (a : List Nat) : (⟨a.toArray⟩ : Str).length = a.length := SX.S_len a
theorem map_er {α β : Type} (f : α → β) : ∀ (l : List α) (i : Nat), (l.map f).eraseIdx i = (l.eraseIdx i).map f
  | [], _ => rfl
  | _ :: _, 0 => rfl
  | a :: l, i + 1 => congrArg (f a :: ·) (map_er f l i)
theorem Thg.abc {K : PySem.W.Frag} {H : Hp} {b : Addr} : Thg K H b (.str "abcdefghijklmnopqrstuvwxyz") (fun v => ∃ c, v = .str ⟨#[c]⟩ ∧ inL c = true) :=
  .inl ⟨_, rfl, by decide +kernel, by decide +kernel, fun c m => ⟨c, rfl, by rw [← in_abc]; exact decide_eq_true m⟩⟩
/-- a title: the stem with a letter put in -/
def mkT (cs : List Nat) (k : Nat) (c : Nat) : Str := ⟨((cs.take k ++ [c]) ++ cs.drop k).toArray⟩
theorem mkT_inj {cs : List Nat} {k x y : Nat} (h : mkT cs k x = mkT cs k y) : x = y := by
  have h1 : (cs.take k ++ [x]) ++ cs.drop k = (cs.take k ++ [y]) ++ cs.drop k := by
    have q := congrArg (fun z : Str => z.cps.toList) h
    simpa [mkT] using q
  have h2 := List.append_cancel_right h1
  have h3 := List.append_cancel_left h2
  exact (List.cons.inj h3).1
theorem nodup_map {α β : Type} {f : α → β} (hf : ∀ x y, f x = f y → x = y) : ∀ {l : List α}, l.Nodup → (l.map f).Nodup
  | [], _ => List.nodup_nil
  | x :: l, h => by
    obtain ⟨h1, h2⟩ := List.nodup_cons.mp h
    rw [List.map_cons]
    refine List.nodup_cons.mpr ⟨fun m => ?_, nodup_map hf h2⟩
    obtain ⟨y, hy, e⟩ := List.mem_map.mp m
    rw [hf _ _ e] at hy
    exact h1 hy
theorem perm_eraseIdx {α : Type} : ∀ {l : List α} {i : Nat} (h : i < l.length), (l[i] :: l.eraseIdx i).Perm l
  | _ :: _, 0, _ => List.Perm.refl _
  | x :: l, i + 1, h => by
    have q := perm_eraseIdx (l := l) (i := i) (by simpa using h)
    rw [List.eraseIdx_cons_succ, List.getElem_cons_succ]
    exact (List.Perm.swap x _ _).trans (q.cons x)
theorem nodup_move {us ls : List Nat} {i : Nat} (h : i < ls.length) (nd : (us ++ ls).Nodup) : ((us ++ [ls[i]]) ++ ls.eraseIdx i).Nodup := by
  rw [List.append_assoc, List.singleton_append]
  exact ((perm_eraseIdx h).append_left us).nodup_iff.mpr nd
section
variable {P : Program} {w : World} {K : PySem.W.Frag} {mg : Str → Option Value} {base : Heap} {Z : Fs}
/-! ### _law_titles -/
def sp_law_titles (K : PySem.W.Frag) : Sp := fun vs H Q _ => ∃ (b l : Addr) (many : Nat), vs = [.ref b, .int many] ∧ Bag H b l ∧ many ≤ 20 ∧ ∀ (H' : Hp) (p : Addr) (zs : List Str), Stp b H H' → Bag H' b l → H p = none → p ≠ b → p ≠ l → H' p = some (.lst (zs.map V.str)) → zs.length = many → (∀ z ∈ zs, Nm z) → zs.Nodup → Q (.ref p) H'
theorem ok_law_titles (T : Txt K w mg Z) : FnOk P w K mg base CX0 3 Z.a_law_titles Z.d_law_titles ["_law_bag_here", "_law_many"] (sp_law_titles K) := by
  have G_law_draw : FnOk P w K mg base CX0 1 Z.a_law_draw Z.d_law_draw ["_law_bag_here", "_law_sides"] sp_law_draw := ok_law_draw T
  have G_law_of : FnOk P w K mg base CX0 2 Z.a_law_of Z.d_law_of ["_law_bag_here", "_law_things"] (sp_law_ofO K) := ok_law_ofO T
  refine T.F_law_titles.ok sc_law_titles (fun vs H Q E h => ?_) (fun cdv A outer s H vs Q E hr h => ?_)
  · obtain ⟨b, l, many, rfl, _⟩ := h
    rfl
  · obtain ⟨b, l, many, rfl, B, hm, k⟩ := h
    refine ⟨_, (pss_cons (ps_par (i := 2) (j := 3) (by rfl) sc_law_titles.nd rfl rfl (by decide) rfl rfl (pa_cons (pe_callTy (call_list_str1 rfl) (by rfl) T.n_list boot_list (pa_cons pe_str pa_nil)) (pa_cons (pe_lst pa_nil) pa_nil)) (by rfl))
      (pss_cons (ps_set (i := 4) sc_law_titles.nd rfl (Or.inl rfl) (pe_join pe_str (pe_lc (own := [("_law_k", 5)]) (g := gName 5) (tt := tYes) rfl sc_law_titles.nd (pi_range1 (by rfl) T.n_range (pa_cons (pe_call G_law_draw (hr.mono (by omega)) (by rfl) T.m_law_draw T.F_law_draw.kp T.b_law_draw .nil pass0 (pa_cons (pv 0) (pa_cons pe_int pa_nil))) pa_nil)) (blkOk_by (N := N_law_titles) (sc := defScope s_law_titles) (by decide +kernel)) (fun _ _ _ _ _ => pg_name (i := 5) sc_law_titles.nd rfl (Or.inl rfl)) (fun _ _ _ _ _ => pts_nil) (fun _ _ _ _ _ => (pe_call G_law_of (hr.mono (by omega)) (by rfl) T.m_law_of T.F_law_of.kp T.b_law_of .nil pass0 (pa_cons (pv 0) (pa_cons pe_str pa_nil)))))))
      (pss_cons (ps_set (i := 6) sc_law_titles.nd rfl (Or.inl rfl) (pe_call G_law_draw (hr.mono (by omega)) (by rfl) T.m_law_draw T.F_law_draw.kp T.b_law_draw .nil pass0 (pa_cons (pv 0) (pa_cons (pe_op op_add (pe_callB (Go.c_len : CallR _ _ (Go.RLen K)) (by rfl) T.n_len boot_len (pa_cons (pv 4) pa_nil)) pe_int) pa_nil))))
      (pss_cons (ps_for PassesOwn.never rfl (pi_range1 (by rfl) T.n_range (pa_cons (pv 1) pa_nil)) (pg_name (i := 5) sc_law_titles.nd rfl (Or.inl rfl)) (pss_one (ps_expr (pe_bm PySem.F.plainAttrs_list PySem.F.slot_list_append PySem.F.type_list_append mt_append (pv 3) (pa_cons (pe_op Go.c_addS (pe_op Go.c_addS (pe_slice sl_str (pv 4) po_none (po_some (pv 6))) (pe_bm PySem.F.plainAttrs_list PySem.F.slot_list_pop PySem.F.type_list_pop mt_popAt (pv 2) (pa_cons (pe_call G_law_draw (hr.mono (by omega)) (by rfl) T.m_law_draw T.F_law_draw.kp T.b_law_draw .nil pass0 (pa_cons (pv 0) (pa_cons (pe_callB (Go.c_len : CallR _ _ (Go.RLen K)) (by rfl) T.n_len boot_len (pa_cons (pv 2) pa_nil)) pa_nil))) pa_nil))) (pe_slice sl_str (pv 4) (po_some (pv 6)) po_none)) pa_nil)))))
      (pss_one (ps_ret (pv 3))))))), ?_⟩
    refine ⟨_, rfl, (by decide +kernel), fun p1 h1 => ⟨Nat.zero_le _, fun p2 h2 => ⟨_, _, rfl, ?_⟩⟩⟩
    have n1 := B.ne h1
    have l1 := B.nel h1
    have s1 : Same H (upd H p1 (.lst (("abcdefghijklmnopqrstuvwxyz" : Str).cps.toList.map fun c => V.str ⟨#[c]⟩))) := Same.new h1
    have e1 : (upd H p1 (.lst (("abcdefghijklmnopqrstuvwxyz" : Str).cps.toList.map fun c => V.str ⟨#[c]⟩))) p1 = some (.lst (("abcdefghijklmnopqrstuvwxyz" : Str).cps.toList.map fun c => V.str ⟨#[c]⟩)) := upd_same
    generalize upd H p1 (.lst (("abcdefghijklmnopqrstuvwxyz" : Str).cps.toList.map fun c => V.str ⟨#[c]⟩)) = H1 at s1 e1 h2 ⊢
    have B1 := B.same s1
    have n2 := B1.ne h2
    have l2 := B1.nel h2
    have n12 : p1 ≠ p2 := ne_of_none e1 h2
    have z2 : H p2 = none := s1.free h2
    have s2 : Same H1 (upd H1 p2 (.lst [])) := Same.new h2
    have e2 : (upd H1 p2 (.lst [])) p2 = some (.lst []) := upd_same
    generalize upd H1 p2 (.lst []) = H2 at s2 e2 ⊢
    replace e1 := s2 _ _ e1
    have B2 := B1.same s2
    have s02 : Stp b H H2 := Same.stp (s1.trans s2)
    clear s1 s2 B1 h2
    -- stem
    refine ⟨⟨_, rfl⟩, .ref b, rfl, b, l, 6, rfl, B2, by decide, by decide, fun H3 d s3 B3 g0 g1 => ⟨d, rfl, by omega, by omega, fun D hD => ?_⟩⟩
    have nD := B3.ne hD
    have lD := B3.nel hD
    refine lc_it walk_range (fun i H' => Bag H' b l ∧ Stp b H3 H' ∧ ∃ cs : List Nat, H' D = some (.lst ((cs.map fun c => (⟨#[c]⟩ : Str)).map V.str)) ∧ cs.length = i ∧ ∀ c ∈ cs, inL c = true) ⟨B3.new hD, Stp.new hD, [], upd_same, rfl, mem0⟩ (fun _ _ _ _ => True.intro) ?_ ?_
    · rintro j x H4 H5 hj ⟨B4, s4, cs, e4, lc, hc⟩ ⟨rfl, rfl⟩
      refine ⟨rfl, .ref b, rfl, b, l, _, _, rfl, B4, Thg.abc, fun H6 v s6 B6 hv => ?_⟩
      obtain ⟨c, rfl, hc4⟩ := hv
      refine ⟨_, s6 _ _ nD e4, ?_, B6.put nD lD, (s4.trans s6).putnew hD, cs ++ [c], ?_, ?_, mema hc (mem1 hc4)⟩
      · rw [List.length_map, List.length_map, lc]
        exact Nat.lt_of_lt_of_le (show j < 6 by omega) (by decide)
      · rw [upd_same]
        simp
      · simp [lc]
    rintro H4 ⟨B4, s4, cs, e4, lc, hc⟩
    refine ⟨_, D, cs.map fun c => (⟨#[c]⟩ : Str), rfl, rfl, .inl (SqL.of e4), ?_, ?_⟩
    · rw [len_ones, List.length_map, lc]
      show d.toNat + d.toNat * 0 ≤ 16777216
      omega
    rw [join_ones]
    have lc' : cs.length ≤ 5 := by omega
    replace s4 := s3.trans s4
    replace s02 := s02.trans s4
    replace e1 := s4 _ _ n1 e1
    replace e2 := s4 _ _ n2 e2
    clear e4 lc nD lD hD B3 s3 B2 s4 g0 g1
    -- spot
    refine ⟨.ref b, rfl, _, rfl, _, cs.length, rfl, ⟨by rw [len_S]; exact Nat.le_trans lc' (by decide), (len_S cs).symm⟩, _, _, rfl, rfl, b, l, _, rfl, B4, by omega, by omega, fun H5 sp s5 B5 q0 q1 => ?_⟩
    replace s02 := s02.trans s5
    replace e1 := s5 _ _ n1 e1
    replace e2 := s5 _ _ n2 e2
    clear s5 B4
    refine ⟨.int many, rfl, many, rfl, by omega, by omega, for_range (lo := 0) (n := (many : Int).toNat) (fun i σ H' => ∃ (y5 : Option V) (ls us : List Nat) (zs : List Str), σ = [some (.ref b), some (.int many), some (.ref p1), some (.ref p2), some (.str ⟨cs.toArray⟩), y5, some (.int sp)] ∧ Bag H' b l ∧ Stp b H H' ∧
      H' p1 = some (.lst (ls.map fun c => V.str ⟨#[c]⟩)) ∧ ls.length + i = 26 ∧ (∀ c ∈ ls, inL c = true) ∧ H' p2 = some (.lst (zs.map V.str)) ∧ zs.length = i ∧ (∀ z ∈ zs, Nm z) ∧ zs = us.map (mkT cs sp.toNat) ∧ (us ++ ls).Nodup)
      ⟨_, _, [], [], rfl, B5, s02, e1, by decide +kernel, (fun c m => by rw [← in_abc]; exact decide_eq_true m), e2, rfl, mem0, rfl, by decide +kernel⟩ ?_ ?_⟩
    · rintro i σ H6 hi ⟨y5, ls, us, zs, rfl, B6, s6, f1, ll, hl, f2, lz, hz, ez, nd⟩
      refine ⟨.ref p2, rfl, .inl ⟨rfl, _, SqL.of f2⟩, _, rfl, .int sp, rfl, sp, rfl, _, rfl, (by rw [len_S]; exact Nat.le_trans lc' (by decide)), ?_⟩
      rw [cut_to q0]
      refine ⟨.ref p1, rfl, .inl ⟨rfl, _, SqL.of f1⟩, .ref b, rfl, .ref p1, rfl, .ref p1, ls.length, rfl, .inl ⟨_, SqL.of f1, by rw [List.length_map]⟩, b, l, _, rfl, B6, by omega, by omega, fun H7 d s7 B7 d0 d1 => ?_⟩
      have hd : d.toNat < ls.length := by omega
      refine ⟨p1, _, d, d.toNat, .str ⟨#[ls[d.toNat]]⟩, rfl, rfl, s7 _ _ n1 f1, by omega, by omega, (by rw [List.length_map]; exact seqIndex_of d0 (by omega)), (by rw [List.getElem?_map, List.getElem?_eq_getElem hd]; rfl), ?_⟩
      refine ⟨_, _, rfl, rfl, (by rw [len_S]; show _ + 1 ≤ sizeLine; exact Nat.le_trans (show (cs.take sp.toNat).length + 1 ≤ 100 by rw [List.length_take]; omega) (by decide)), ?_⟩
      rw [show (⟨#[ls[d.toNat]]⟩ : Str) = ⟨[ls[d.toNat]].toArray⟩ from rfl, cat_S]
      refine ⟨_, rfl, .int sp, rfl, sp, rfl, _, rfl, (by rw [len_S]; exact Nat.le_trans lc' (by decide)), ?_⟩
      rw [cut_from q0]
      refine ⟨_, _, rfl, rfl, (by rw [len_S, len_S]; exact Nat.le_trans (show (cs.take sp.toNat ++ [ls[d.toNat]]).length + (cs.drop sp.toNat).length ≤ 100 by rw [List.length_append, List.length_take, List.length_drop, List.length_singleton]; omega) (by decide)), ?_⟩
      rw [cat_S]
      have g2 : (upd H7 p1 (.lst ((ls.map fun c => V.str ⟨#[c]⟩).eraseIdx d.toNat))) p2 = some (.lst (zs.map V.str)) := by
        rw [upd_ne n12.symm]
        exact s7 _ _ n2 f2
      refine ⟨p2, _, _, rfl, rfl, g2, (by rw [List.length_map, lz]; exact Nat.lt_of_lt_of_le (show i < 20 by omega) (by decide)), ?_⟩
      refine ⟨_, ls.eraseIdx d.toNat, us ++ [ls[d.toNat]], zs ++ [_], rfl, (B7.put n1 l1).put n2 l2, ((s6.trans s7).putnew h1).putnew z2, ?_, ?_, fun c m => hl c (List.mem_of_mem_eraseIdx m), by rw [upd_same, List.map_append]; rfl, by rw [List.length_append, lz]; rfl, mema hz (mem1 ?_), by rw [ez, List.map_append]; rfl, nodup_move hd nd⟩
      · rw [upd_ne n12, upd_same]
        rw [map_er]
      · rw [List.length_eraseIdx_of_lt hd]
        omega
      · refine ⟨?_, ?_, ?_⟩
        · simp
          omega
        · simp
          omega
        · rw [List.all_eq_true]
          intro c m
          have m : c ∈ (cs.take sp.toNat ++ [ls[d.toNat]]) ++ cs.drop sp.toNat := by simpa using m
          rcases List.mem_append.mp m with m | m
          · rcases List.mem_append.mp m with m | m
            · exact hc c (List.mem_of_mem_take m)
            · rw [List.mem_singleton.mp m]
              exact hl _ (List.getElem_mem hd)
          · exact hc c (List.mem_of_mem_drop m)
    · rintro σ H6 ⟨y5, ls, us, zs, rfl, B6, s6, f1, ll, hl, f2, lz, hz, ez, nd⟩
      refine ⟨.ref p2, rfl, k _ _ zs s6 B6 z2 n2 l2 f2 (by omega) hz ?_⟩
      rw [ez]
      exact nodup_map (fun x y => mkT_inj) (List.nodup_append.mp nd).1
/-! ### _law_number, _law_r -/
def sp_law_number : Sp := fun vs H Q _ => ∃ (b l : Addr), vs = [.ref b] ∧ Bag H b l ∧ ∀ (H' : Hp) (i : Int), Stp b H H' → Bag H' b l → 0 ≤ i → i ≤ 65535 → Q (.int i) H'
theorem ok_law_number (T : Txt K w mg Z) : FnOk P w K mg base CX0 3 Z.a_law_number Z.d_law_number ["_law_bag_here"] sp_law_number := by
  have G_law_draw : FnOk P w K mg base CX0 1 Z.a_law_draw Z.d_law_draw ["_law_bag_here", "_law_sides"] sp_law_draw := ok_law_draw T
  have G_law_of : FnOk P w K mg base CX0 2 Z.a_law_of Z.d_law_of ["_law_bag_here", "_law_things"] (sp_law_ofO K) := ok_law_ofO T
  refine T.F_law_number.ok sc_law_number (fun vs H Q E h => ?_) (fun cdv A outer s H vs Q E hr h => ?_)
  · obtain ⟨b, l, rfl, _⟩ := h
    rfl
  · obtain ⟨b, l, rfl, B, k⟩ := h
    refine ⟨_, (pss_one (ps_ret (pe_call G_law_of (hr.mono (by omega)) (by rfl) T.m_law_of T.F_law_of.kp T.b_law_of .nil pass0 (pa_cons (pv 0) (pa_cons (pe_lst (pa_cons pe_int (pa_cons pe_int (pa_cons pe_int (pa_cons pe_int (pa_cons pe_int (pa_cons pe_int (pa_cons pe_int (pa_cons (pe_call G_law_draw (hr.mono (by omega)) (by rfl) T.m_law_draw T.F_law_draw.kp T.b_law_draw .nil pass0 (pa_cons (pv 0) (pa_cons pe_int pa_nil))) (pa_cons (pe_call G_law_draw (hr.mono (by omega)) (by rfl) T.m_law_draw T.F_law_draw.kp T.b_law_draw .nil pass0 (pa_cons (pv 0) (pa_cons pe_int pa_nil))) (pa_cons (pe_call G_law_draw (hr.mono (by omega)) (by rfl) T.m_law_draw T.F_law_draw.kp T.b_law_draw .nil pass0 (pa_cons (pv 0) (pa_cons pe_int pa_nil))) pa_nil))))))))))) pa_nil))))), ?_⟩
    refine ⟨.ref b, rfl, .ref b, rfl, b, l, 300, rfl, B, by decide, by decide, fun H1 d1 s1 B1 _ _ => ?_⟩
    refine ⟨.ref b, rfl, b, l, 65536, rfl, B1, by decide, by decide, fun H2 d2 s2 B2 _ _ => ?_⟩
    refine ⟨.ref b, rfl, b, l, 65536, rfl, B2, by decide, by decide, fun H3 d3 s3 B3 _ _ => ?_⟩
    refine ⟨(by show 10 ≤ sizeLine; decide), fun p hp => ?_⟩
    refine ⟨b, l, .ref p, fun v => ∃ i, v = .int i ∧ 0 ≤ i ∧ i ≤ 65535, rfl, B3.new hp, .lst (B3.ne hp) (SqL.of upd_same) (by show 0 < 10; decide) (by show 10 ≤ 100000; decide) ?_, fun H4 v s4 B4 hv => ?_⟩
    · exact memc ⟨_, rfl, by decide, by decide⟩ (memc ⟨_, rfl, by decide, by decide⟩ (memc ⟨_, rfl, by decide, by decide⟩ (memc ⟨_, rfl, by decide, by decide⟩ (memc ⟨_, rfl, by decide, by decide⟩ (memc ⟨_, rfl, by decide, by decide⟩ (memc ⟨_, rfl, by decide, by decide⟩ (memc ⟨_, rfl, by omega, by omega⟩ (memc ⟨_, rfl, by omega, by omega⟩ (mem1 ⟨_, rfl, by omega, by omega⟩)))))))))
    · obtain ⟨i, rfl, i0, i1⟩ := hv
      exact k _ _ ((((s1.trans s2).trans s3).trans (Stp.new hp)).trans s4) B4 i0 i1
def sp_law_r : Sp := fun vs H Q _ => ∃ (b l : Addr), vs = [.ref b] ∧ Bag H b l ∧ ∀ (H' : Hp) (v : V), Stp b H H' → Bag H' b l → v ∈ regs → Q v H'
theorem ok_law_r (T : Txt K w mg Z) : FnOk P w K mg base CX0 3 Z.a_law_r Z.d_law_r ["_law_bag_here"] sp_law_r := by
  have G_law_of : FnOk P w K mg base CX0 2 Z.a_law_of Z.d_law_of ["_law_bag_here", "_law_things"] (sp_law_ofO K) := ok_law_ofO T
  refine T.F_law_r.ok sc_law_r (fun vs H Q E h => ?_) (fun cdv A outer s H vs Q E hr h => ?_)
  · obtain ⟨b, l, rfl, _⟩ := h
    rfl
  · obtain ⟨b, l, rfl, B, k⟩ := h
    refine ⟨_, (pss_one (ps_ret (pe_call G_law_of (hr.mono (by omega)) (by rfl) T.m_law_of T.F_law_of.kp T.b_law_of .nil pass0 (pa_cons (pv 0) (pa_cons (pe_lst (pa_cons pe_str (pa_cons pe_str (pa_cons pe_str pa_nil)))) pa_nil))))), ?_⟩
    refine ⟨.ref b, rfl, (by show 3 ≤ sizeLine; decide), fun p hp => ?_⟩
    exact ⟨b, l, .ref p, fun v => v ∈ regs, rfl, B.new hp, .lst (B.ne hp) (SqL.of upd_same) (by show 0 < 3; decide) (by show 3 ≤ 100000; decide) (fun v m => m), fun H4 v s4 B4 hv => k _ _ ((Stp.new hp).trans s4) B4 hv⟩
end

section
variable {P : Program} {w : World} {K : PySem.W.Frag} {mg : Str → Option Value} {base : Heap} {Z : Fs}
/-! ### drawn rows -/
/-- the names at hand: a list of texts, not the bag -/
def Tls (H : Hp) (b t : Addr) (ts : List Str) : Prop := H t = some (.lst (ts.map V.str)) ∧ t ≠ b ∧ 0 < ts.length ∧ ts.length ≤ 1000
theorem Tls.stp {H H' : Hp} {b t : Addr} {ts : List Str} (s : Stp b H H') (h : Tls H b t ts) : Tls H' b t ts := ⟨s _ _ h.2.1 h.1, h.2⟩
theorem Tls.thg {H : Hp} {b t : Addr} {ts : List Str} (h : Tls H b t ts) : Thg K H b (.ref t) (fun v => ∃ z, v = .str z ∧ z ∈ ts) :=
  .lst h.2.1 (SqL.of h.1) (by rw [List.length_map]; exact h.2.2.1) (by rw [List.length_map]; exact Nat.le_trans h.2.2.2 (by decide)) fun v m => by
    obtain ⟨z, hz, rfl⟩ := List.mem_map.mp m
    exact ⟨z, rfl, hz⟩
def sp_law_code_row : Sp := fun vs H Q _ => ∃ (b l t : Addr) (ts : List Str), vs = [.ref b, .ref t] ∧ Bag H b l ∧ Tls H b t ts ∧ ∀ (H' : Hp) (a : Addr) (xs : List V), Stp b H H' → Bag H' b l → H' a = some (.tup xs) → a ≠ b → CRow ts xs → Q (.ref a) H'
theorem ok_law_code_row (T : Txt K w mg Z) : FnOk P w K mg base CX0 4 Z.a_law_code_row Z.d_law_code_row ["_law_bag_here", "_law_titles_here"] sp_law_code_row := by
  have G_law_draw : FnOk P w K mg base CX0 1 Z.a_law_draw Z.d_law_draw ["_law_bag_here", "_law_sides"] sp_law_draw := ok_law_draw T
  have G_law_of : FnOk P w K mg base CX0 2 Z.a_law_of Z.d_law_of ["_law_bag_here", "_law_things"] (sp_law_ofO K) := ok_law_ofO T
  have G_law_number : FnOk P w K mg base CX0 3 Z.a_law_number Z.d_law_number ["_law_bag_here"] sp_law_number := ok_law_number T
  have G_law_r : FnOk P w K mg base CX0 3 Z.a_law_r Z.d_law_r ["_law_bag_here"] sp_law_r := ok_law_r T
  refine T.F_law_code_row.ok sc_law_code_row (fun vs H Q E h => ?_) (fun cdv A outer s H vs Q E hr h => ?_)
  · obtain ⟨b, l, t, ts, rfl, _⟩ := h
    rfl
  · obtain ⟨b, l, t, ts, rfl, B, TT, k⟩ := h
    refine ⟨_, (pss_cons (ps_set (i := 2) sc_law_code_row.nd rfl (Or.inl rfl) (pe_call G_law_draw (hr.mono (by omega)) (by rfl) T.m_law_draw T.F_law_draw.kp T.b_law_draw .nil pass0 (pa_cons (pv 0) (pa_cons pe_int pa_nil))))
      (pss_cons (ps_if (pt_cmpR op_lt (pv 2) pe_int (nomark _)) (pss_one (ps_ret (pe_tup (pa_cons pe_str (pa_cons (pe_call G_law_r (hr.mono (by omega)) (by rfl) T.m_law_r T.F_law_r.kp T.b_law_r .nil pass0 (pa_cons (pv 0) pa_nil)) (pa_cons (pe_call G_law_number (hr.mono (by omega)) (by rfl) T.m_law_number T.F_law_number.kp T.b_law_number .nil pass0 (pa_cons (pv 0) pa_nil)) pa_nil)))))) pss_nil)
      (pss_cons (ps_if (pt_cmpR op_lt (pv 2) pe_int (nomark _)) (pss_one (ps_ret (pe_tup (pa_cons (pe_call G_law_of (hr.mono (by omega)) (by rfl) T.m_law_of T.F_law_of.kp T.b_law_of .nil pass0 (pa_cons (pv 0) (pa_cons (pe_lst (pa_cons pe_str (pa_cons pe_str pa_nil))) pa_nil))) (pa_cons (pe_call G_law_r (hr.mono (by omega)) (by rfl) T.m_law_r T.F_law_r.kp T.b_law_r .nil pass0 (pa_cons (pv 0) pa_nil)) (pa_cons (pe_call G_law_of (hr.mono (by omega)) (by rfl) T.m_law_of T.F_law_of.kp T.b_law_of .nil pass0 (pa_cons (pv 0) (pa_cons (pv 1) pa_nil))) pa_nil)))))) pss_nil)
      (pss_cons (ps_if (pt_cmpR op_lt (pv 2) pe_int (nomark _)) (pss_one (ps_ret (pe_tup (pa_cons (pe_call G_law_of (hr.mono (by omega)) (by rfl) T.m_law_of T.F_law_of.kp T.b_law_of .nil pass0 (pa_cons (pv 0) (pa_cons (pe_lst (pa_cons pe_str (pa_cons pe_str pa_nil))) pa_nil))) (pa_cons (pe_call G_law_r (hr.mono (by omega)) (by rfl) T.m_law_r T.F_law_r.kp T.b_law_r .nil pass0 (pa_cons (pv 0) pa_nil)) (pa_cons (pe_call G_law_r (hr.mono (by omega)) (by rfl) T.m_law_r T.F_law_r.kp T.b_law_r .nil pass0 (pa_cons (pv 0) pa_nil)) pa_nil)))))) pss_nil)
      (pss_cons (ps_if (pt_cmpR op_lt (pv 2) pe_int (nomark _)) (pss_one (ps_ret (pe_tup (pa_cons (pe_call G_law_of (hr.mono (by omega)) (by rfl) T.m_law_of T.F_law_of.kp T.b_law_of .nil pass0 (pa_cons (pv 0) (pa_cons (pe_lst (pa_cons pe_str (pa_cons pe_str pa_nil))) pa_nil))) (pa_cons (pe_call G_law_r (hr.mono (by omega)) (by rfl) T.m_law_r T.F_law_r.kp T.b_law_r .nil pass0 (pa_cons (pv 0) pa_nil)) (pa_cons (pe_call G_law_r (hr.mono (by omega)) (by rfl) T.m_law_r T.F_law_r.kp T.b_law_r .nil pass0 (pa_cons (pv 0) pa_nil)) (pa_cons (pe_call G_law_of (hr.mono (by omega)) (by rfl) T.m_law_of T.F_law_of.kp T.b_law_of .nil pass0 (pa_cons (pv 0) (pa_cons (pe_lst (pa_cons pe_int (pa_cons pe_int (pa_cons (pe_call G_law_draw (hr.mono (by omega)) (by rfl) T.m_law_draw T.F_law_draw.kp T.b_law_draw .nil pass0 (pa_cons (pv 0) (pa_cons pe_int pa_nil))) pa_nil)))) pa_nil))) pa_nil))))))) pss_nil)
      (pss_cons (ps_if (pt_cmpR op_lt (pv 2) pe_int (nomark _)) (pss_one (ps_ret (pe_tup (pa_cons (pe_call G_law_of (hr.mono (by omega)) (by rfl) T.m_law_of T.F_law_of.kp T.b_law_of .nil pass0 (pa_cons (pv 0) (pa_cons (pe_lst (pa_cons pe_str (pa_cons pe_str pa_nil))) pa_nil))) (pa_cons (pe_call G_law_of (hr.mono (by omega)) (by rfl) T.m_law_of T.F_law_of.kp T.b_law_of .nil pass0 (pa_cons (pv 0) (pa_cons (pv 1) pa_nil))) pa_nil))))) pss_nil)
      (pss_cons (ps_if (pt_cmpR op_lt (pv 2) pe_int (nomark _)) (pss_one (ps_ret (pe_tup (pa_cons (pe_call G_law_of (hr.mono (by omega)) (by rfl) T.m_law_of T.F_law_of.kp T.b_law_of .nil pass0 (pa_cons (pv 0) (pa_cons (pe_lst (pa_cons pe_str (pa_cons pe_str pa_nil))) pa_nil))) (pa_cons (pe_call G_law_r (hr.mono (by omega)) (by rfl) T.m_law_r T.F_law_r.kp T.b_law_r .nil pass0 (pa_cons (pv 0) pa_nil)) pa_nil))))) pss_nil)
      (pss_one (ps_ret (pe_call G_law_of (hr.mono (by omega)) (by rfl) T.m_law_of T.F_law_of.kp T.b_law_of .nil pass0 (pa_cons (pv 0) (pa_cons (pe_lst (pa_cons (pe_tup (pa_cons pe_str pa_nil)) (pa_cons (pe_tup (pa_cons pe_str pa_nil)) (pa_cons (pe_tup (pa_cons pe_str (pa_cons (pe_call G_law_of (hr.mono (by omega)) (by rfl) T.m_law_of T.F_law_of.kp T.b_law_of .nil pass0 (pa_cons (pv 0) (pa_cons (pe_lst (pa_cons pe_int (pa_cons pe_int (pa_cons pe_int (pa_cons pe_int pa_nil))))) pa_nil))) pa_nil))) pa_nil)))) pa_nil)))))))))))), ?_⟩
    refine ⟨.ref b, rfl, b, l, 14, rfl, B, by decide, by decide, fun H0 d s0 B0 _ _ => ?_⟩
    have T0 := TT.stp s0
    refine ⟨_, rfl, _, _, rfl, rfl, _, rfl, ite2 (fun _ => ?_) (fun _ => ?_)⟩
    · -- put
      refine ⟨.ref b, rfl, b, l, rfl, B0, fun H1 r s1 B1 hr1 => ⟨.ref b, rfl, b, l, rfl, B1, fun H2 n s2 B2 n0 n1 => ⟨(by show 3 ≤ sizeLine; decide), fun p hp => ?_⟩⟩⟩
      exact k _ p _ (((s0.trans s1).trans s2).trans (Stp.new hp)) (B2.new hp) upd_same (B2.ne hp) (.put hr1 n0 n1)
    refine ⟨_, rfl, _, _, rfl, rfl, _, rfl, ite2 (fun _ => ?_) (fun _ => ?_)⟩
    · -- name, ifzero
      refine ⟨.ref b, rfl, (by show 2 ≤ sizeLine; decide), fun q hq => ⟨b, l, .ref q, fun v => v ∈ [V.str "name", V.str "ifzero"], rfl, B0.new hq, .lst (B0.ne hq) (SqL.of upd_same) (by show 0 < 2; decide) (by show 2 ≤ 100000; decide) (fun v m => m), fun H1 v s1 B1 hv => ?_⟩⟩
      replace s1 := (Stp.new hq).trans s1
      refine ⟨.ref b, rfl, b, l, rfl, B1, fun H2 r s2 B2 hr2 => ?_⟩
      have T2 := (T0.stp s1).stp s2
      refine ⟨.ref b, rfl, .ref t, rfl, b, l, .ref t, _, rfl, B2, T2.thg, fun H3 u s3 B3 hu => ?_⟩
      obtain ⟨z, rfl, hz⟩ := hu
      refine ⟨(by show 3 ≤ sizeLine; decide), fun p hp => ?_⟩
      have ss := (((s0.trans s1).trans s2).trans s3).trans (Stp.new (o := .tup [v, r, .str z]) hp)
      rcases List.mem_cons.mp hv with rfl | hv
      · exact k _ p _ ss (B3.new hp) upd_same (B3.ne hp) (.name hr2 hz)
      · rw [List.mem_singleton.mp hv] at ss ⊢
        exact k _ p _ ss (B3.new hp) upd_same (B3.ne hp) (.ifzero hr2 hz)
    refine ⟨_, rfl, _, _, rfl, rfl, _, rfl, ite2 (fun _ => ?_) (fun _ => ?_)⟩
    · -- add, take
      refine ⟨.ref b, rfl, (by show 2 ≤ sizeLine; decide), fun q hq => ⟨b, l, .ref q, fun v => v ∈ [V.str "add", V.str "take"], rfl, B0.new hq, .lst (B0.ne hq) (SqL.of upd_same) (by show 0 < 2; decide) (by show 2 ≤ 100000; decide) (fun v m => m), fun H1 v s1 B1 hv => ?_⟩⟩
      replace s1 := (Stp.new hq).trans s1
      refine ⟨.ref b, rfl, b, l, rfl, B1, fun H2 r s2 B2 hr2 => ⟨.ref b, rfl, b, l, rfl, B2, fun H3 r3 s3 B3 hr3 => ⟨(by show 3 ≤ sizeLine; decide), fun p hp => ?_⟩⟩⟩
      have ss := (((s0.trans s1).trans s2).trans s3).trans (Stp.new (o := .tup [v, r, r3]) hp)
      rcases List.mem_cons.mp hv with rfl | hv
      · exact k _ p _ ss (B3.new hp) upd_same (B3.ne hp) (.add hr2 hr3)
      · rw [List.mem_singleton.mp hv] at ss ⊢
        exact k _ p _ ss (B3.new hp) upd_same (B3.ne hp) (.take hr2 hr3)
    refine ⟨_, rfl, _, _, rfl, rfl, _, rfl, ite2 (fun _ => ?_) (fun _ => ?_)⟩
    · -- load, store
      refine ⟨.ref b, rfl, (by show 2 ≤ sizeLine; decide), fun q hq => ⟨b, l, .ref q, fun v => v ∈ [V.str "load", V.str "store"], rfl, B0.new hq, .lst (B0.ne hq) (SqL.of upd_same) (by show 0 < 2; decide) (by show 2 ≤ 100000; decide) (fun v m => m), fun H1 v s1 B1 hv => ?_⟩⟩
      replace s1 := (Stp.new hq).trans s1
      refine ⟨.ref b, rfl, b, l, rfl, B1, fun H2 r s2 B2 hr2 => ⟨.ref b, rfl, b, l, rfl, B2, fun H3 r3 s3 B3 hr3 => ?_⟩⟩
      refine ⟨.ref b, rfl, .ref b, rfl, b, l, 16, rfl, B3, by decide, by decide, fun H4 d4 s4 B4 g0 g1 => ⟨(by show 3 ≤ sizeLine; decide), fun q4 hq4 => ?_⟩⟩
      refine ⟨b, l, .ref q4, fun v => ∃ i, v = .int i ∧ 0 ≤ i ∧ i ≤ 15, rfl, B4.new hq4, .lst (B4.ne hq4) (SqL.of upd_same) (by show 0 < 3; decide) (by show 3 ≤ 100000; decide) (memc ⟨_, rfl, by decide, by decide⟩ (memc ⟨_, rfl, by decide, by decide⟩ (mem1 ⟨_, rfl, by omega, by omega⟩))), fun H5 u s5 B5 hu => ?_⟩
      obtain ⟨i, rfl, i0, i1⟩ := hu
      replace s5 := (s4.trans (Stp.new hq4)).trans s5
      refine ⟨(by show 4 ≤ sizeLine; decide), fun p hp => ?_⟩
      have ss := ((((s0.trans s1).trans s2).trans s3).trans s5).trans (Stp.new (o := .tup [v, r, r3, .int i]) hp)
      rcases List.mem_cons.mp hv with rfl | hv
      · exact k _ p _ ss (B5.new hp) upd_same (B5.ne hp) (.load hr2 hr3 i0 i1)
      · rw [List.mem_singleton.mp hv] at ss ⊢
        exact k _ p _ ss (B5.new hp) upd_same (B5.ne hp) (.store hr2 hr3 i0 i1)
    refine ⟨_, rfl, _, _, rfl, rfl, _, rfl, ite2 (fun _ => ?_) (fun _ => ?_)⟩
    · -- jump, call
      refine ⟨.ref b, rfl, (by show 2 ≤ sizeLine; decide), fun q hq => ⟨b, l, .ref q, fun v => v ∈ [V.str "jump", V.str "call"], rfl, B0.new hq, .lst (B0.ne hq) (SqL.of upd_same) (by show 0 < 2; decide) (by show 2 ≤ 100000; decide) (fun v m => m), fun H1 v s1 B1 hv => ?_⟩⟩
      replace s1 := (Stp.new hq).trans s1
      have T1 := T0.stp s1
      refine ⟨.ref b, rfl, .ref t, rfl, b, l, .ref t, _, rfl, B1, T1.thg, fun H3 u s3 B3 hu => ?_⟩
      obtain ⟨z, rfl, hz⟩ := hu
      refine ⟨(by show 2 ≤ sizeLine; decide), fun p hp => ?_⟩
      have ss := ((s0.trans s1).trans s3).trans (Stp.new (o := .tup [v, .str z]) hp)
      rcases List.mem_cons.mp hv with rfl | hv
      · exact k _ p _ ss (B3.new hp) upd_same (B3.ne hp) (.jump hz)
      · rw [List.mem_singleton.mp hv] at ss ⊢
        exact k _ p _ ss (B3.new hp) upd_same (B3.ne hp) (.call hz)
    refine ⟨_, rfl, _, _, rfl, rfl, _, rfl, ite2 (fun _ => ?_) (fun _ => ?_)⟩
    · -- callby, out
      refine ⟨.ref b, rfl, (by show 2 ≤ sizeLine; decide), fun q hq => ⟨b, l, .ref q, fun v => v ∈ [V.str "callby", V.str "out"], rfl, B0.new hq, .lst (B0.ne hq) (SqL.of upd_same) (by show 0 < 2; decide) (by show 2 ≤ 100000; decide) (fun v m => m), fun H1 v s1 B1 hv => ?_⟩⟩
      replace s1 := (Stp.new hq).trans s1
      refine ⟨.ref b, rfl, b, l, rfl, B1, fun H2 r s2 B2 hr2 => ⟨(by show 2 ≤ sizeLine; decide), fun p hp => ?_⟩⟩
      have ss := ((s0.trans s1).trans s2).trans (Stp.new (o := .tup [v, r]) hp)
      rcases List.mem_cons.mp hv with rfl | hv
      · exact k _ p _ ss (B2.new hp) upd_same (B2.ne hp) (.callby hr2)
      · rw [List.mem_singleton.mp hv] at ss ⊢
        exact k _ p _ ss (B2.new hp) upd_same (B2.ne hp) (.out hr2)
    · -- back, halt, room
      refine ⟨.ref b, rfl, (by show 1 ≤ sizeLine; decide), fun p1 h1 => ?_⟩
      have n1 := B0.ne h1
      have s1 : Same H0 (upd H0 p1 (.tup [V.str "back"])) := Same.new h1
      have e1 : (upd H0 p1 (.tup [V.str "back"])) p1 = some (.tup [V.str "back"]) := upd_same
      generalize upd H0 p1 (.tup [V.str "back"]) = H1 at s1 e1 ⊢
      have B1 := B0.same s1
      refine ⟨(by show 1 ≤ sizeLine; decide), fun p2 h2 => ?_⟩
      have n2 := B1.ne h2
      have s2 : Same H1 (upd H1 p2 (.tup [V.str "halt"])) := Same.new h2
      have e2 : (upd H1 p2 (.tup [V.str "halt"])) p2 = some (.tup [V.str "halt"]) := upd_same
      generalize upd H1 p2 (.tup [V.str "halt"]) = H2 at s2 e2 ⊢
      have B2 := B1.same s2
      refine ⟨.ref b, rfl, (by show 4 ≤ sizeLine; decide), fun q hq => ⟨b, l, .ref q, fun v => ∃ i, v = .int i ∧ 1 ≤ i ∧ i ≤ 120, rfl, B2.new hq, .lst (B2.ne hq) (SqL.of upd_same) (by show 0 < 4; decide) (by show 4 ≤ 100000; decide) (memc ⟨_, rfl, by decide, by decide⟩ (memc ⟨_, rfl, by decide, by decide⟩ (memc ⟨_, rfl, by decide, by decide⟩ (mem1 ⟨_, rfl, by decide, by decide⟩)))), fun H3 u s3 B3 hu => ?_⟩⟩
      obtain ⟨i, rfl, i0, i1⟩ := hu
      replace s3 := (Stp.new hq).trans s3
      refine ⟨(by show 2 ≤ sizeLine; decide), fun p3 h3 => ?_⟩
      have n3 := B3.ne h3
      have s4 : Same H3 (upd H3 p3 (.tup [V.str "room", V.int i])) := Same.new h3
      have e4 : (upd H3 p3 (.tup [V.str "room", V.int i])) p3 = some (.tup [V.str "room", V.int i]) := upd_same
      generalize upd H3 p3 (.tup [V.str "room", V.int i]) = H4 at s4 e4 ⊢
      have B4 := B3.same s4
      refine ⟨(by show 3 ≤ sizeLine; decide), fun q4 hq4 => ?_⟩
      have u1 : Stp b H0 H4 := ((Same.stp (s1.trans s2)).trans s3).trans (Same.stp s4)
      have f2 : H4 p2 = some (.tup [V.str "halt"]) := s4 _ _ (s3 _ _ n2 e2)
      have f1 : H4 p1 = some (.tup [V.str "back"]) := s4 _ _ (s3 _ _ n1 (s2 _ _ e1))
      refine ⟨b, l, .ref q4, fun v => ∃ (a : Addr) (xs : List V), v = .ref a ∧ H4 a = some (.tup xs) ∧ a ≠ b ∧ CRow ts xs, rfl, B4.new hq4, .lst (B4.ne hq4) (SqL.of upd_same) (by show 0 < 3; decide) (by show 3 ≤ 100000; decide) (memc ⟨_, _, rfl, f1, n1, .back⟩ (memc ⟨_, _, rfl, f2, n2, .halt⟩ (mem1 ⟨_, _, rfl, e4, n3, .room i0 i1⟩))), fun H5 u s5 B5 hu => ?_⟩
      obtain ⟨a, xs, rfl, ea, na, hx⟩ := hu
      exact k _ a xs (((s0.trans u1).trans (Stp.new hq4)).trans s5) B5 (s5 _ _ na ((Stp.new hq4) _ _ na ea)) na hx
def sp_law_data_row : Sp := fun vs H Q _ => ∃ (b l t : Addr) (ts : List Str), vs = [.ref b, .ref t] ∧ Bag H b l ∧ Tls H b t ts ∧ ∀ (H' : Hp) (a : Addr) (xs : List V), Stp b H H' → Bag H' b l → H' a = some (.tup xs) → a ≠ b → DRow ts xs → Q (.ref a) H'
theorem ok_law_data_row (T : Txt K w mg Z) : FnOk P w K mg base CX0 4 Z.a_law_data_row Z.d_law_data_row ["_law_bag_here", "_law_titles_here"] sp_law_data_row := by
  have G_law_draw : FnOk P w K mg base CX0 1 Z.a_law_draw Z.d_law_draw ["_law_bag_here", "_law_sides"] sp_law_draw := ok_law_draw T
  have G_law_of : FnOk P w K mg base CX0 2 Z.a_law_of Z.d_law_of ["_law_bag_here", "_law_things"] (sp_law_ofO K) := ok_law_ofO T
  have G_law_number : FnOk P w K mg base CX0 3 Z.a_law_number Z.d_law_number ["_law_bag_here"] sp_law_number := ok_law_number T
  refine T.F_law_data_row.ok sc_law_data_row (fun vs H Q E h => ?_) (fun cdv A outer s H vs Q E hr h => ?_)
  · obtain ⟨b, l, t, ts, rfl, _⟩ := h
    rfl
  · obtain ⟨b, l, t, ts, rfl, B, TT, k⟩ := h
    refine ⟨_, (pss_cons (ps_set (i := 2) sc_law_data_row.nd rfl (Or.inl rfl) (pe_call G_law_draw (hr.mono (by omega)) (by rfl) T.m_law_draw T.F_law_draw.kp T.b_law_draw .nil pass0 (pa_cons (pv 0) (pa_cons pe_int pa_nil))))
      (pss_cons (ps_if (pt_cmpR op_eq (pv 2) pe_int (nomark _)) (pss_one (ps_ret (pe_tup (pa_cons pe_str (pa_cons (pe_call G_law_number (hr.mono (by omega)) (by rfl) T.m_law_number T.F_law_number.kp T.b_law_number .nil pass0 (pa_cons (pv 0) pa_nil)) pa_nil))))) pss_nil)
      (pss_one (ps_ret (pe_ifExp (pt_cmpR op_eq (pv 2) pe_int (nomark _)) (pe_tup (pa_cons pe_str (pa_cons (pe_call G_law_of (hr.mono (by omega)) (by rfl) T.m_law_of T.F_law_of.kp T.b_law_of .nil pass0 (pa_cons (pv 0) (pa_cons (pv 1) pa_nil))) pa_nil))) (pe_tup (pa_cons pe_str (pa_cons (pe_call G_law_of (hr.mono (by omega)) (by rfl) T.m_law_of T.F_law_of.kp T.b_law_of .nil pass0 (pa_cons (pv 0) (pa_cons (pe_lst (pa_cons pe_int (pa_cons pe_int (pa_cons pe_int (pa_cons pe_int pa_nil))))) pa_nil))) pa_nil)))))))), ?_⟩
    refine ⟨.ref b, rfl, b, l, 3, rfl, B, by decide, by decide, fun H0 d s0 B0 _ _ => ?_⟩
    have T0 := TT.stp s0
    refine ⟨_, rfl, rfl, _, rfl, ite2 (fun _ => ?_) (fun _ => ?_)⟩
    · refine ⟨.ref b, rfl, b, l, rfl, B0, fun H2 n s2 B2 n0 n1 => ⟨(by show 2 ≤ sizeLine; decide), fun p hp => ?_⟩⟩
      exact k _ p _ ((s0.trans s2).trans (Stp.new hp)) (B2.new hp) upd_same (B2.ne hp) (.word n0 n1)
    refine ⟨_, rfl, rfl, _, rfl, ite2 (fun _ => ?_) (fun _ => ?_)⟩
    · refine ⟨.ref b, rfl, .ref t, rfl, b, l, .ref t, _, rfl, B0, T0.thg, fun H3 u s3 B3 hu => ?_⟩
      obtain ⟨z, rfl, hz⟩ := hu
      refine ⟨(by show 2 ≤ sizeLine; decide), fun p hp => ?_⟩
      exact k _ p _ ((s0.trans s3).trans (Stp.new hp)) (B3.new hp) upd_same (B3.ne hp) (.address hz)
    · refine ⟨.ref b, rfl, (by show 4 ≤ sizeLine; decide), fun q hq => ⟨b, l, .ref q, fun v => ∃ i, v = .int i ∧ 1 ≤ i ∧ i ≤ 120, rfl, B0.new hq, .lst (B0.ne hq) (SqL.of upd_same) (by show 0 < 4; decide) (by show 4 ≤ 100000; decide) (memc ⟨_, rfl, by decide, by decide⟩ (memc ⟨_, rfl, by decide, by decide⟩ (memc ⟨_, rfl, by decide, by decide⟩ (mem1 ⟨_, rfl, by decide, by decide⟩)))), fun H3 u s3 B3 hu => ?_⟩⟩
      obtain ⟨i, rfl, i0, i1⟩ := hu
      replace s3 := (Stp.new hq).trans s3
      refine ⟨(by show 2 ≤ sizeLine; decide), fun p hp => ?_⟩
      exact k _ p _ ((s0.trans s3).trans (Stp.new hp)) (B3.new hp) upd_same (B3.ne hp) (.room i0 i1)
end

/-! ### the law's own judgement of rows -/
theorem fitV_R (x : V) : fitV "R" x = regV x := by
  unfold fitV
  rw [if_pos rfl]
theorem fitV_N (x : V) : fitV "N" x = nmV x := by
  unfold fitV
  rw [if_neg (by decide +kernel), if_pos rfl]
theorem fitV_num {q : Str} (x : V) (h1 : q ≠ "R") (h2 : q ≠ "N") : fitV q x = numV x (bnd q).1 (bnd q).2 := by
  unfold fitV
  rw [if_neg h1, if_neg h2]
theorem fitA_0 (r : List V) : fitA r [] = decide (r.length = 0) := by
  unfold fitA
  simp
theorem fitA_1 (q : Str) (r : List V) : fitA r [q] = (decide (r.length = 1) && fitV q (r.getD 0 .non)) := by
  match r with
  | [] => rfl
  | [x] => simp [fitA]
  | x :: y :: t => simp [fitA]
theorem fitA_2 (q s : Str) (r : List V) : fitA r [q, s] = (decide (r.length = 2) && (fitV q (r.getD 0 .non) && fitV s (r.getD 1 .non))) := by
  match r with
  | [] => rfl
  | [x] => rfl
  | [x, y] => simp [fitA]
  | x :: y :: z :: t => simp [fitA]
theorem fitA_3 (q s t : Str) (r : List V) : fitA r [q, s, t] = (decide (r.length = 3) && (fitV q (r.getD 0 .non) && (fitV s (r.getD 1 .non) && fitV t (r.getD 2 .non)))) := by
  match r with
  | [] => rfl
  | [x] => rfl
  | [x, y] => rfl
  | [x, y, z] => simp [fitA]
  | x :: y :: z :: a :: l => simp [fitA]
theorem codeO_of {u : Str} {r : List V} {ks : List V} (h : findT tb_CODE_ROWS u = some ks) : codeO (some (.str u :: r)) = fitA r (kS ks) := by
  show (match findT tb_CODE_ROWS u with | some ks => fitA r (kS ks) | none => false) = _
  rw [h]
theorem codeO_no {u : Str} {r : List V} (h : findT tb_CODE_ROWS u = none) : codeO (some (.str u :: r)) = false := by
  show (match findT tb_CODE_ROWS u with | some ks => fitA r (kS ks) | none => false) = _
  rw [h]
theorem dataO_of {u : Str} {r : List V} {ks : List V} (h : findT tb_DATA_ROWS u = some ks) : dataO (some (.str u :: r)) = fitA r (kS ks) := by
  show (match findT tb_DATA_ROWS u with | some ks => fitA r (kS ks) | none => false) = _
  rw [h]
theorem dataO_no {u : Str} {r : List V} (h : findT tb_DATA_ROWS u = none) : dataO (some (.str u :: r)) = false := by
  show (match findT tb_DATA_ROWS u with | some ks => fitA r (kS ks) | none => false) = _
  rw [h]
theorem findT_no {α : Type} (l : List (Str × α)) (u : Str) (h : u ∉ l.map (·.1)) : findT l u = none := by
  unfold findT
  rw [List.find?_eq_none.mpr (fun x hx z => h (List.mem_map.mpr ⟨x, hx, of_decide_eq_true z⟩))]
  rfl
theorem cls0 : ∀ u : Str, u ∈ tb_CODE_ROWS.map (·.1) → (u = "back" ∨ u = "halt") ∨ u = "room" ∨ (u = "jump" ∨ u = "call") ∨ (u = "callby" ∨ u = "out") ∨ (u = "name" ∨ u = "ifzero") ∨ u = "put" ∨ (u = "add" ∨ u = "take") ∨ (u = "load" ∨ u = "store") := by
  have h : ∀ u ∈ tb_CODE_ROWS.map (fun p : Str × List V => p.1), (u = Str.ofString "back" ∨ u = Str.ofString "halt") ∨ u = Str.ofString "room" ∨ (u = Str.ofString "jump" ∨ u = Str.ofString "call") ∨ (u = Str.ofString "callby" ∨ u = Str.ofString "out") ∨ (u = Str.ofString "name" ∨ u = Str.ofString "ifzero") ∨ u = Str.ofString "put" ∨ (u = Str.ofString "add" ∨ u = Str.ofString "take") ∨ (u = Str.ofString "load" ∨ u = Str.ofString "store") := by
    decide +kernel
  exact h
theorem cls (u : Str) : (u = "back" ∨ u = "halt") ∨ u = "room" ∨ (u = "jump" ∨ u = "call") ∨ (u = "callby" ∨ u = "out") ∨ (u = "name" ∨ u = "ifzero") ∨ u = "put" ∨ (u = "add" ∨ u = "take") ∨ (u = "load" ∨ u = "store") ∨ findT tb_CODE_ROWS u = none := by
  by_cases h : u ∈ tb_CODE_ROWS.map (·.1)
  · rcases cls0 u h with c | c | c | c | c | c | c | c
    · exact .inl c
    · exact .inr (.inl c)
    · exact .inr (.inr (.inl c))
    · exact .inr (.inr (.inr (.inl c)))
    · exact .inr (.inr (.inr (.inr (.inl c))))
    · exact .inr (.inr (.inr (.inr (.inr (.inl c)))))
    · exact .inr (.inr (.inr (.inr (.inr (.inr (.inl c))))))
    · exact .inr (.inr (.inr (.inr (.inr (.inr (.inr (.inl c)))))))
  · exact .inr (.inr (.inr (.inr (.inr (.inr (.inr (.inr (findT_no _ _ h))))))))
theorem clsD0 : ∀ u : Str, u ∈ tb_DATA_ROWS.map (·.1) → u = "word" ∨ u = "address" ∨ u = "room" := by
  have h : ∀ u ∈ tb_DATA_ROWS.map (fun p : Str × List V => p.1), u = Str.ofString "word" ∨ u = Str.ofString "address" ∨ u = Str.ofString "room" := by
    decide +kernel
  exact h
theorem clsD (u : Str) : u = "word" ∨ u = "address" ∨ u = "room" ∨ findT tb_DATA_ROWS u = none := by
  by_cases h : u ∈ tb_DATA_ROWS.map (·.1)
  · rcases clsD0 u h with c | c | c
    · exact .inl c
    · exact .inr (.inl c)
    · exact .inr (.inr (.inl c))
  · exact .inr (.inr (.inr (findT_no _ _ h)))
theorem in2 {u a b : Str} : inV (.str u) [.str a, .str b] = true ↔ (u = a ∨ u = b) := by
  show ((a == u) || ((b == u) || false)) = true ↔ _
  rw [Bool.or_false, Bool.or_eq_true, beq_iff_eq, beq_iff_eq]
  exact ⟨fun h => h.imp Eq.symm Eq.symm, fun h => h.imp Eq.symm Eq.symm⟩
theorem in2f {u a b : Str} : inV (.str u) [.str a, .str b] = false ↔ ¬ (u = a ∨ u = b) := by
  rw [← in2, Bool.not_eq_true]
section
theorem co_0 {u : Str} {r : List V} (h : u = "back" ∨ u = "halt") : codeO (some (.str u :: r)) = decide (r.length = 0) := by
  rcases h with rfl | rfl
  · exact (codeO_of (ks := []) (by decide +kernel)).trans (fitA_0 r)
  · exact (codeO_of (ks := []) (by decide +kernel)).trans (fitA_0 r)
theorem co_room {r : List V} : codeO (some (.str "room" :: r)) = (decide (r.length = 1) && numV (r.getD 0 .non) 1 120) := by
  rw [codeO_of (ks := kst ["k"]) (by decide +kernel)]
  show fitA r ["k"] = _
  rw [fitA_1, fitV_num _ (by decide +kernel) (by decide +kernel)]
  rfl
theorem co_N {u : Str} {r : List V} (h : u = "jump" ∨ u = "call") : codeO (some (.str u :: r)) = (decide (r.length = 1) && nmV (r.getD 0 .non)) := by
  have e : codeO (some (.str u :: r)) = fitA r ["N"] := by
    rcases h with rfl | rfl
    · exact codeO_of (ks := kst ["N"]) (by decide +kernel)
    · exact codeO_of (ks := kst ["N"]) (by decide +kernel)
  rw [e, fitA_1, fitV_N]
theorem co_R {u : Str} {r : List V} (h : u = "callby" ∨ u = "out") : codeO (some (.str u :: r)) = (decide (r.length = 1) && regV (r.getD 0 .non)) := by
  have e : codeO (some (.str u :: r)) = fitA r ["R"] := by
    rcases h with rfl | rfl
    · exact codeO_of (ks := kst ["R"]) (by decide +kernel)
    · exact codeO_of (ks := kst ["R"]) (by decide +kernel)
  rw [e, fitA_1, fitV_R]
theorem co_RN {u : Str} {r : List V} (h : u = "name" ∨ u = "ifzero") : codeO (some (.str u :: r)) = (decide (r.length = 2) && (regV (r.getD 0 .non) && nmV (r.getD 1 .non))) := by
  have e : codeO (some (.str u :: r)) = fitA r ["R", "N"] := by
    rcases h with rfl | rfl
    · exact codeO_of (ks := kst ["R", "N"]) (by decide +kernel)
    · exact codeO_of (ks := kst ["R", "N"]) (by decide +kernel)
  rw [e, fitA_2, fitV_R, fitV_N]
theorem co_put {r : List V} : codeO (some (.str "put" :: r)) = (decide (r.length = 2) && (regV (r.getD 0 .non) && numV (r.getD 1 .non) 0 65535)) := by
  have e : codeO (some (.str "put" :: r)) = fitA r ["R", "n"] := codeO_of (ks := kst ["R", "n"]) (by decide +kernel)
  rw [e, fitA_2, fitV_R, fitV_num _ (by decide +kernel) (by decide +kernel)]
  rfl
theorem co_RR {u : Str} {r : List V} (h : u = "add" ∨ u = "take") : codeO (some (.str u :: r)) = (decide (r.length = 2) && (regV (r.getD 0 .non) && regV (r.getD 1 .non))) := by
  have e : codeO (some (.str u :: r)) = fitA r ["R", "R"] := by
    rcases h with rfl | rfl
    · exact codeO_of (ks := kst ["R", "R"]) (by decide +kernel)
    · exact codeO_of (ks := kst ["R", "R"]) (by decide +kernel)
  rw [e, fitA_2, fitV_R, fitV_R]
theorem co_RRd {u : Str} {r : List V} (h : u = "load" ∨ u = "store") : codeO (some (.str u :: r)) = (decide (r.length = 3) && (regV (r.getD 0 .non) && (regV (r.getD 1 .non) && numV (r.getD 2 .non) 0 15))) := by
  have e : codeO (some (.str u :: r)) = fitA r ["R", "R", "d"] := by
    rcases h with rfl | rfl
    · exact codeO_of (ks := kst ["R", "R", "d"]) (by decide +kernel)
    · exact codeO_of (ks := kst ["R", "R", "d"]) (by decide +kernel)
  rw [e, fitA_3, fitV_R, fitV_R, fitV_num _ (by decide +kernel) (by decide +kernel)]
  rfl
theorem da_word {r : List V} : dataO (some (.str "word" :: r)) = (decide (r.length = 1) && numV (r.getD 0 .non) 0 65535) := by
  have e : dataO (some (.str "word" :: r)) = fitA r ["n"] := dataO_of (ks := kst ["n"]) (by decide +kernel)
  rw [e, fitA_1, fitV_num _ (by decide +kernel) (by decide +kernel)]
  rfl
theorem da_addr {r : List V} : dataO (some (.str "address" :: r)) = (decide (r.length = 1) && nmV (r.getD 0 .non)) := by
  have e : dataO (some (.str "address" :: r)) = fitA r ["N"] := dataO_of (ks := kst ["N"]) (by decide +kernel)
  rw [e, fitA_1, fitV_N]
theorem da_room {r : List V} : dataO (some (.str "room" :: r)) = (decide (r.length = 1) && numV (r.getD 0 .non) 1 120) := by
  have e : dataO (some (.str "room" :: r)) = fitA r ["k"] := dataO_of (ks := kst ["k"]) (by decide +kernel)
  rw [e, fitA_1, fitV_num _ (by decide +kernel) (by decide +kernel)]
  rfl
/-- what is no row for want of a first register -/
theorem co_no0 {u : Str} {r : List V} (n1 : ¬ (u = "back" ∨ u = "halt")) (n2 : u ≠ "room") (n3 : ¬ (u = "jump" ∨ u = "call")) (h : regV (r.getD 0 .non) = false) : codeO (some (.str u :: r)) = false := by
  rcases cls u with c | c | c | c | c | c | c | c | c
  · exact absurd c n1
  · exact absurd c n2
  · exact absurd c n3
  · rw [co_R c, h, Bool.and_false]
  · rw [co_RN c, h, Bool.false_and, Bool.and_false]
  · subst c
    rw [co_put, h, Bool.false_and, Bool.and_false]
  · rw [co_RR c, h, Bool.false_and, Bool.and_false]
  · rw [co_RRd c, h, Bool.false_and, Bool.and_false]
  · exact codeO_no c
theorem co_no1 {u : Str} {r : List V} (n1 : ¬ (u = "back" ∨ u = "halt")) (n2 : u ≠ "room") (n3 : ¬ (u = "jump" ∨ u = "call")) (n4 : ¬ (u = "callby" ∨ u = "out")) (n5 : ¬ (u = "name" ∨ u = "ifzero")) (n6 : u ≠ "put") (h : regV (r.getD 1 .non) = false) : codeO (some (.str u :: r)) = false := by
  rcases cls u with c | c | c | c | c | c | c | c | c
  · exact absurd c n1
  · exact absurd c n2
  · exact absurd c n3
  · exact absurd c n4
  · exact absurd c n5
  · exact absurd c n6
  · rw [co_RR c, h, Bool.and_false, Bool.and_false]
  · rw [co_RRd c, h, Bool.false_and, Bool.and_false, Bool.and_false]
  · exact codeO_no c
variable {P : Program} {w : World} {K : PySem.W.Frag} {mg : Str → Option Value} {base : Heap} {Z : Fs}
theorem getD_at {r : List V} {i : Nat} (h : i < r.length) : atI r (i : Int) = some (r.getD i .non) ∧ r.getD i .non ∈ r := by
  have e : r.getD i .non = r[i] := by rw [List.getD_eq_getElem?_getD, List.getElem?_eq_getElem h]; rfl
  rw [e]
  exact ⟨atI_nat (List.getElem?_eq_getElem h), List.getElem_mem h⟩
theorem reg_none : regV .non = false := rfl
end

/-! ### drawn rows are rows -/
def Rwy (ts : List Str) (xs : List V) : Prop := CRow ts xs ∨ DRow ts xs
def hd0 (xs : List V) : V := xs.getD 0 .non
def closL : List V := [.str "jump", .str "halt", .str "back"]
def nameL : List V := [.str "name", .str "jump", .str "ifzero", .str "call", .str "address"]
/-- the last item -/
def lastV (xs : List V) : V := (atI xs (-1)).getD .non
/-- the name in a row -/
def namV (xs : List V) : V := if inV (hd0 xs) nameL then lastV xs else .non
theorem regV_of {r : V} (h : r ∈ regs) : regV r = true := by
  have all : ∀ r ∈ regs, regV r = true := by decide +kernel
  exact all r h
theorem reg_str {r : V} (h : r ∈ regs) : ∃ z, r = .str z ∧ StrK z := by
  have e := regV_of h
  simp only [regs, List.mem_cons, List.not_mem_nil, or_false] at h
  rcases h with rfl | rfl | rfl
  · exact ⟨_, rfl, by decide +kernel, by decide +kernel⟩
  · exact ⟨_, rfl, by decide +kernel, by decide +kernel⟩
  · exact ⟨_, rfl, by decide +kernel, by decide +kernel⟩
theorem Okv.reg {K : PySem.W.Frag} {H : Hp} {b : Addr} {n : Nat} {r : V} (h : r ∈ regs) : Okv K H b n r := by
  obtain ⟨z, rfl, hz⟩ := reg_str h
  exact .str hz
theorem nmV_of {z : Str} (h : Nm z) : nmV (.str z) = true := by
  obtain ⟨h1, h2, h3⟩ := h
  simp [nmV, h1, h2, h3]
theorem numV_of {i lo hi : Int} (h0 : lo ≤ i) (h1 : i ≤ hi) : numV (.int i) lo hi = true := by
  simp [numV, h0, h1]
section
variable {K : PySem.W.Frag} {H : Hp} {b : Addr} {ts : List Str} {xs : List V}
theorem CRow.ok (hz : ∀ z ∈ ts, Nm z) (h : CRow ts xs) : (∀ n, ∀ x ∈ xs, Okv K H b n x) ∧ 1 ≤ xs.length ∧ xs.length ≤ 4 ∧ codeO (some xs) = true := by
  cases h with
  | put hr h0 h1 => exact ⟨fun n => memc (.lit (by decide +kernel)) (memc (.reg hr) (mem1 .int)), by simp, by simp, by rw [co_put]; exact Bool.and_eq_true_iff.mpr ⟨rfl, Bool.and_eq_true_iff.mpr ⟨regV_of hr, numV_of h0 h1⟩⟩⟩
  | name hr ht => exact ⟨fun n => memc (.lit (by decide +kernel)) (memc (.reg hr) (mem1 (.str (hz _ ht).strK))), by simp, by simp, by rw [co_RN (.inl rfl)]; exact Bool.and_eq_true_iff.mpr ⟨rfl, Bool.and_eq_true_iff.mpr ⟨regV_of hr, nmV_of (hz _ ht)⟩⟩⟩
  | ifzero hr ht => exact ⟨fun n => memc (.lit (by decide +kernel)) (memc (.reg hr) (mem1 (.str (hz _ ht).strK))), by simp, by simp, by rw [co_RN (.inr rfl)]; exact Bool.and_eq_true_iff.mpr ⟨rfl, Bool.and_eq_true_iff.mpr ⟨regV_of hr, nmV_of (hz _ ht)⟩⟩⟩
  | add hr hs => exact ⟨fun n => memc (.lit (by decide +kernel)) (memc (.reg hr) (mem1 (.reg hs))), by simp, by simp, by rw [co_RR (.inl rfl)]; exact Bool.and_eq_true_iff.mpr ⟨rfl, Bool.and_eq_true_iff.mpr ⟨regV_of hr, regV_of hs⟩⟩⟩
  | take hr hs => exact ⟨fun n => memc (.lit (by decide +kernel)) (memc (.reg hr) (mem1 (.reg hs))), by simp, by simp, by rw [co_RR (.inr rfl)]; exact Bool.and_eq_true_iff.mpr ⟨rfl, Bool.and_eq_true_iff.mpr ⟨regV_of hr, regV_of hs⟩⟩⟩
  | load hr hs h0 h1 => exact ⟨fun n => memc (.lit (by decide +kernel)) (memc (.reg hr) (memc (.reg hs) (mem1 .int))), by simp, by simp, by rw [co_RRd (.inl rfl)]; exact Bool.and_eq_true_iff.mpr ⟨rfl, Bool.and_eq_true_iff.mpr ⟨regV_of hr, Bool.and_eq_true_iff.mpr ⟨regV_of hs, numV_of h0 h1⟩⟩⟩⟩
  | store hr hs h0 h1 => exact ⟨fun n => memc (.lit (by decide +kernel)) (memc (.reg hr) (memc (.reg hs) (mem1 .int))), by simp, by simp, by rw [co_RRd (.inr rfl)]; exact Bool.and_eq_true_iff.mpr ⟨rfl, Bool.and_eq_true_iff.mpr ⟨regV_of hr, Bool.and_eq_true_iff.mpr ⟨regV_of hs, numV_of h0 h1⟩⟩⟩⟩
  | jump ht => exact ⟨fun n => memc (.lit (by decide +kernel)) (mem1 (.str (hz _ ht).strK)), by simp, by simp, by rw [co_N (.inl rfl)]; exact Bool.and_eq_true_iff.mpr ⟨rfl, nmV_of (hz _ ht)⟩⟩
  | call ht => exact ⟨fun n => memc (.lit (by decide +kernel)) (mem1 (.str (hz _ ht).strK)), by simp, by simp, by rw [co_N (.inr rfl)]; exact Bool.and_eq_true_iff.mpr ⟨rfl, nmV_of (hz _ ht)⟩⟩
  | callby hr => exact ⟨fun n => memc (.lit (by decide +kernel)) (mem1 (.reg hr)), by simp, by simp, by rw [co_R (.inl rfl)]; exact Bool.and_eq_true_iff.mpr ⟨rfl, regV_of hr⟩⟩
  | out hr => exact ⟨fun n => memc (.lit (by decide +kernel)) (mem1 (.reg hr)), by simp, by simp, by rw [co_R (.inr rfl)]; exact Bool.and_eq_true_iff.mpr ⟨rfl, regV_of hr⟩⟩
  | back => exact ⟨fun n => mem1 (.lit (by decide +kernel)), by simp, by simp, by rw [co_0 (.inl rfl)]; rfl⟩
  | halt => exact ⟨fun n => mem1 (.lit (by decide +kernel)), by simp, by simp, by rw [co_0 (.inr rfl)]; rfl⟩
  | room h0 h1 => exact ⟨fun n => memc (.lit (by decide +kernel)) (mem1 .int), by simp, by simp, by rw [co_room]; exact Bool.and_eq_true_iff.mpr ⟨rfl, numV_of h0 h1⟩⟩
theorem DRow.ok (hz : ∀ z ∈ ts, Nm z) (h : DRow ts xs) : (∀ n, ∀ x ∈ xs, Okv K H b n x) ∧ 1 ≤ xs.length ∧ xs.length ≤ 4 ∧ dataO (some xs) = true ∧ inV (hd0 xs) closL = false := by
  cases h with
  | word h0 h1 => exact ⟨fun n => memc (.lit (by decide +kernel)) (mem1 .int), by simp, by simp, by rw [da_word]; exact Bool.and_eq_true_iff.mpr ⟨rfl, numV_of h0 h1⟩, rfl⟩
  | address ht => exact ⟨fun n => memc (.lit (by decide +kernel)) (mem1 (.str (hz _ ht).strK)), by simp, by simp, by rw [da_addr]; exact Bool.and_eq_true_iff.mpr ⟨rfl, nmV_of (hz _ ht)⟩, rfl⟩
  | room h0 h1 => exact ⟨fun n => memc (.lit (by decide +kernel)) (mem1 .int), by simp, by simp, by rw [da_room]; exact Bool.and_eq_true_iff.mpr ⟨rfl, numV_of h0 h1⟩, rfl⟩
theorem Rwy.ok (hz : ∀ z ∈ ts, Nm z) (h : Rwy ts xs) : (∀ n, ∀ x ∈ xs, Okv K H b n x) ∧ 1 ≤ xs.length ∧ xs.length ≤ 4 := by
  rcases h with h | h
  · obtain ⟨h1, h2, h3, _⟩ := h.ok (K := K) (H := H) (b := b) hz
    exact ⟨h1, h2, h3⟩
  · obtain ⟨h1, h2, h3, _⟩ := h.ok (K := K) (H := H) (b := b) hz
    exact ⟨h1, h2, h3⟩
theorem Rwy.tp {a : Addr} (hz : ∀ z ∈ ts, Nm z) (h : Rwy ts xs) (e : SqT K H a xs) : Tp K H a 0 (.ref a) (some xs) :=
  ⟨a, rfl, e, Nat.le_trans (h.ok (K := K) (H := H) (b := a) hz).2.2 (by decide), (h.ok hz).1 0⟩
theorem Rwy.str (h : Rwy ts xs) : flatV (hd0 xs) = true := by
  rcases h with h | h
  · cases h <;> rfl
  · cases h <;> rfl
theorem Rwy.hd (h : Rwy ts xs) : atI xs 0 = some (hd0 xs) := by
  have l1 : 1 ≤ xs.length := by
    rcases h with h | h
    · cases h <;> simp
    · cases h <;> simp
  exact (getD_at (i := 0) (by omega)).1
end
section
variable {P : Program} {w : World} {K : PySem.W.Frag} {mg : Str → Option Value} {base : Heap} {Z : Fs}
def sp_is_closing (K : PySem.W.Frag) : Sp := fun vs H Q _ => ∃ (a : Addr) (xs : List V) (ts : List Str), vs = [.ref a] ∧ SqT K H a xs ∧ (∀ z ∈ ts, Nm z) ∧ Rwy ts xs ∧ ∀ H' : Hp, Same H H' → Q (.bl (inV (hd0 xs) closL)) H'
theorem ok_is_closing (T : Txt K w mg Z) : FnOk P w K mg base CX0 5 Z.a_is_closing Z.d_is_closing ["row"] (sp_is_closing K) := by
  have G_is_code_row : FnOk P w K mg base CX0 4 Z.a_is_code_row Z.d_is_code_row ["value"] (sp_is_code_row K) := ok_is_code_row T
  refine T.F_is_closing.ok sc_is_closing (fun vs H Q E h => ?_) (fun cdv A outer s H vs Q E hr h => ?_)
  · obtain ⟨a, xs, ts, rfl, _⟩ := h
    rfl
  · obtain ⟨a, xs, ts, rfl, hx, hz, hr', k⟩ := h
    refine ⟨_, (pss_one (ps_ret (pe_and (pe_call G_is_code_row (hr.mono (by omega)) (by rfl) T.m_is_code_row T.F_is_code_row.kp T.b_is_code_row .nil pass0 (pa_cons (pv 0) pa_nil)) (pe_one (pe_cmpR (op_in_seq : OpR _ _ (rIn K false)) (pe_ix (ix_tup : IxR _ (rIxT K)) (pv 0) pe_int (fun _ _ => rfl)) (pe_glob (v := .ref Z.c_CLOSING) (by rfl) T.g_CLOSING rfl) (by rfl)))))), ?_⟩
    refine ⟨.ref a, rfl, .ref a, a, 0, some xs, rfl, hr'.tp hz hx, fun H1 s1 => ⟨_, rfl, ?_⟩⟩
    have hd := hr'.hd
    cases hc : codeO (some xs) with
    | true =>
      refine iteT ⟨.ref a, rfl, a, xs, 0, _, rfl, rfl, Same.sqT s1 hx, hd, _, closL, rfl, .inr (T.v_CLOSING H1), hr'.str, rfl, ?_⟩
      exact k _ s1
    | false =>
      refine iteF ?_
      rcases hr' with h | h
      · rw [(h.ok (K := K) (H := H) (b := a) hz).2.2.2] at hc
        cases hc
      · show Q (.bl false) H1
        rw [← (h.ok (K := K) (H := H) (b := a) hz).2.2.2.2]
        exact k _ s1
end

theorem eqv_nil : PyData.eqv (.list []) (.list []) = true := by decide +kernel
theorem eqv_cons (d : PyData) (ds : List PyData) : PyData.eqv (.list (d :: ds)) (.list []) = false := by rfl
theorem dp_strs {K : PySem.W.Frag} {H : Hp} : ∀ l : List Nat, DpAll K H (l.map fun c => V.str ⟨#[c]⟩) (l.map fun c => PyData.str ⟨#[c]⟩)
  | [] => .nil
  | c :: l => .cons (.str _) (dp_strs l)
theorem lay_strs : ∀ l : List Nat, (∀ c ∈ l, c < 1114112) → PyData.canLayAll0 (l.map fun c => PyData.str ⟨#[c]⟩) = true
  | [], _ => by simp [PyData.canLayAll0]
  | c :: l, h => by
    have h1 := h c (List.mem_cons_self ..)
    have h2 := lay_strs l fun d m => h d (List.mem_cons_of_mem _ m)
    simp [PyData.canLayAll0, PyData.canLay0, PyData.strOk, h1, h2]
theorem dep_strs : ∀ l : List Nat, PyData.depthAll (l.map fun c => PyData.str ⟨#[c]⟩) ≤ 1
  | [] => by simp [PyData.depthAll]
  | c :: l => by
    have h2 := dep_strs l
    simp [PyData.depthAll, PyData.depth]
    omega
theorem shaped_strs {l : List Nat} (h : ∀ c ∈ l, c < 1114112) : SeqAt.shaped (.list (l.map fun c => PyData.str ⟨#[c]⟩)) = true := by
  have h1 := lay_strs l h
  have h2 := dep_strs l
  simp [SeqAt.shaped, PyData.canLay0, PyData.depth, h1]
  omega
section
variable {P : Program} {w : World} {K : PySem.W.Frag} {mg : Str → Option Value} {base : Heap} {Z : Fs}
def sp_law_is_title (K : PySem.W.Frag) : Sp := fun vs H Q _ => ∃ (v : V) (b : Addr) (n : Nat), vs = [v] ∧ Okv K H b n v ∧ ∀ H' : Hp, Same H H' → Q (.bl (nmV v)) H'
theorem ok_law_is_title (T : Txt K w mg Z) : FnOk P w K mg base CX0 1 Z.a_law_is_title Z.d_law_is_title ["_law_thing"] (sp_law_is_title K) := by
  refine T.F_law_is_title.ok sc_law_is_title (fun vs H Q E h => ?_) (fun cdv A outer s H vs Q E hr h => ?_)
  · obtain ⟨v, b, n, rfl, _⟩ := h
    rfl
  · obtain ⟨v, b, n, rfl, ok, k⟩ := h
    refine ⟨_, (pss_cons (ps_if (PW.pt (pw_or (pt_not (pt_val (pe_callB (call_isi : CallR _ _ (rIsi K)) (by rfl) T.n_isinstance boot_isinstance (pa_cons (pv 0) (pa_cons (pe_bltn (v := .ty "str") (by rfl) T.n_str boot_str rfl) pa_nil))))) (pw_or (pt_cmpR op_lt (pe_callB (Go.c_len : CallR _ _ (Go.RLen K)) (by rfl) T.n_len boot_len (pa_cons (pv 0) pa_nil)) pe_int (nomark _)) (pw_or1 (pt_cmpR op_gt (pe_callB (Go.c_len : CallR _ _ (Go.RLen K)) (by rfl) T.n_len boot_len (pa_cons (pv 0) pa_nil)) pe_int (nomark _)))))) (pss_one (ps_ret pe_bl)) pss_nil)
      (pss_one (ps_ret (pe_cmpR (op_eqD hr.units) (pe_lc (own := [("_law_sign", 1)]) (g := gName 1) rfl sc_law_is_title.nd (pi_str (pv 0)) (blkOk_by (N := N_law_is_title) (sc := defScope s_law_is_title) (by decide +kernel)) (fun _ _ _ _ _ => pg_name (i := 1) sc_law_is_title.nd rfl (Or.inl rfl)) (fun _ _ _ _ _ => pts_one (pt_cmpR op_notIn_sign (pv 1) pe_str rfl)) (fun _ _ _ _ _ => (pv 1))) (pe_lst pa_nil) (nomark _))))), ?_⟩
    obtain ⟨t, ty, kS, _, _⟩ := ok.ty
    refine ⟨v, rfl, v, .ty "str", t, _, _, rfl, .ty _, ty, kS, _, rfl, ?_⟩
    cases hv : isS v with
    | false =>
      refine iteT (iteT ?_)
      have e : nmV v = false := by
        cases v with
        | str z => cases hv
        | _ => rfl
      rw [← e]
      exact k _ (Same.refl _)
    | true =>
      obtain ⟨z, rfl⟩ := isS_of hv
      refine iteF ?_
      refine ⟨.str z, rfl, .str z, z.cps.size, rfl, ⟨Nat.le_trans ok.short (by decide), rfl⟩, _, _, rfl, rfl, _, rfl, ite2 (fun h1 => ?_) (fun h1 => ?_)⟩
      · have e : nmV (.str z) = false := by
          have q : ¬ 1 ≤ z.cps.size := fun q => by
            have q2 := of_decide_eq_true h1
            omega
          simp [nmV, q]
        refine iteT ?_
        rw [← e]
        exact k _ (Same.refl _)
      · have h1' : 1 ≤ z.cps.size := by
          have q : ¬ ((z.cps.size : Int) < 1) := fun q => h1 (decide_eq_true q)
          omega
        refine ⟨.str z, rfl, .str z, z.cps.size, rfl, ⟨Nat.le_trans ok.short (by decide), rfl⟩, _, _, rfl, rfl, _, rfl, ite2 (fun h2 => ?_) (fun h2 => ?_)⟩
        · have e : nmV (.str z) = false := by
            have q : ¬ z.cps.size ≤ 6 := fun q => by
              have q2 := of_decide_eq_true h2
              omega
            simp [nmV, q]
          show Q (.bl false) H
          rw [← e]
          exact k _ (Same.refl _)
        · have h2' : z.cps.size ≤ 6 := by
            have q : ¬ ((6 : Int) < z.cps.size) := fun q => h2 (decide_eq_true q)
            omega
          refine ⟨.str z, rfl, z, rfl, fun D hD => ?_⟩
          refine lc_it (walk_str (z := z)) (fun i H' => Same H H' ∧ H' D = some (.lst (((z.cps.toList.take i).filter fun c => !inL c).map fun c => V.str ⟨#[c]⟩))) ⟨Same.new hD, upd_same⟩ (fun _ _ _ _ => True.intro) ?_ ?_
          · rintro i v H2 H3 hi ⟨s2, e2⟩ ⟨rfl, c, hc, rfl⟩
            have hc' : z.cps.toList[i]? = some c := by simpa using hc
            refine ⟨rfl, .str ⟨#[c]⟩, rfl, c, _, rfl, rfl, _, rfl, ?_⟩
            rw [in_abc]
            cases hq : inL c with
            | false =>
              refine iteT ⟨_, rfl, _, e2, ?_, Same.put s2 hD, ?_⟩
              · rw [List.length_map]
                exact Nat.lt_of_le_of_lt (List.length_filter_le _ _) (Nat.lt_of_le_of_lt (List.length_take_le _ _) (Nat.lt_of_lt_of_le hi (Nat.le_trans ok.short (by decide))))
              · rw [upd_same, List.take_add_one, hc', List.filter_append, List.map_append]
                simp [hq]
            | true =>
              refine iteF ⟨s2, ?_⟩
              rw [e2, List.take_add_one, hc', List.filter_append, List.map_append]
              simp [hq]
          · rintro H' ⟨s2, e2⟩
            refine ⟨Nat.zero_le _, fun p hp => ?_⟩
            have nDp : D ≠ p := ne_of_none e2 hp
            refine ⟨.list _, .list [], .lst (SqL.of (by rw [upd_ne nDp]; exact e2)) (dp_strs _), .lst (SqL.of upd_same) .nil, shaped_strs (fun c m => ok.strK.2 c (List.mem_of_mem_take (List.mem_filter.mp m).1)), rfl, ?_⟩
            have e : PyData.eqv (.list (((z.cps.toList.take z.cps.size).filter fun c => !inL c).map fun c => PyData.str ⟨#[c]⟩)) (.list []) = nmV (.str z) := by
              rw [List.take_of_length_le (by simp)]
              have hn : nmV (.str z) = z.cps.toList.all inL := by simp [nmV, h1', h2']
              rw [hn]
              cases hf : (z.cps.toList.filter fun c => !inL c) with
              | nil =>
                rw [List.filter_eq_nil_iff] at hf
                have ha : z.cps.toList.all inL = true := by
                  rw [List.all_eq_true]
                  intro c hc
                  have q := hf c hc
                  simpa using q
                rw [ha]
                exact eqv_nil
              | cons c r =>
                have hm : c ∈ z.cps.toList.filter fun c => !inL c := by
                  rw [hf]
                  exact List.mem_cons_self ..
                rw [List.mem_filter] at hm
                have ha : z.cps.toList.all inL = false := by
                  rw [List.all_eq_false]
                  exact ⟨c, hm.1, by simpa using hm.2⟩
                rw [ha]
                exact eqv_cons _ _
            rw [e]
            exact k _ (s2.trans (Same.new hp))
end

section
variable {P : Program} {w : World} {K : PySem.W.Frag} {mg : Str → Option Value} {base : Heap} {Z : Fs}
def sp_law_withinO (K : PySem.W.Frag) : Sp := fun vs H Q _ => ∃ (v : V) (lo hi : Int) (b : Addr) (n : Nat), vs = [v, .int lo, .int hi] ∧ Okv K H b n v ∧ ∀ H' : Hp, Same H H' → Q (.bl (numV v lo hi)) H'
theorem ok_law_withinO (T : Txt K w mg Z) : FnOk P w K mg base CX0 1 Z.a_law_within Z.d_law_within ["_law_thing", "_law_low_y", "_law_high_y"] (sp_law_withinO K) := by
  refine T.F_law_within.ok sc_law_within (fun vs H Q E h => ?_) (fun cdv A outer s H vs Q E hr h => ?_)
  · obtain ⟨v, lo, hi, b, n, rfl, _⟩ := h
    rfl
  · obtain ⟨v, lo, hi, b, n, rfl, ok, k⟩ := h
    refine ⟨_, (pss_one (ps_ret (pe_and (pe_callB (call_isi : CallR _ _ (rIsi K)) (by rfl) T.n_isinstance boot_isinstance (pa_cons (pv 0) (pa_cons (pe_bltn (v := .ty "int") (by rfl) T.n_int boot_int rfl) pa_nil))) (pe_and (pe_not (pe_callB (call_isi : CallR _ _ (rIsi K)) (by rfl) T.n_isinstance boot_isinstance (pa_cons (pv 0) (pa_cons (pe_bltn (v := .ty "bool") (by rfl) T.n_bool boot_bool rfl) pa_nil)))) (pe_and (pe_cmpR op_le (pv 1) (pv 0) (nomark _)) (pe_one (pe_cmpR op_le (pv 0) (pv 2) (nomark _)))))))), ?_⟩
    obtain ⟨t, ty, _, kB, kI⟩ := ok.ty
    have no : (∀ i, v ≠ .int i) → Q (.bl false) H := fun hn => by
      have e : numV v lo hi = false := by
        cases v with
        | int i => exact absurd rfl (hn i)
        | _ => rfl
      rw [← e]
      exact k _ (Same.refl _)
    refine ⟨v, rfl, v, .ty "int", t, _, _, rfl, .ty _, ty, kI, _, rfl, ?_⟩
    cases hi' : isI v with
    | false =>
      refine iteF (no fun i e => ?_)
      rw [e] at hi'
      cases hi'
    | true =>
      refine iteT ?_
      refine ⟨v, rfl, v, .ty "bool", t, _, _, rfl, .ty _, ty, kB, _, rfl, _, rfl, ?_⟩
      cases hb : isB v with
      | true =>
        refine iteF (no fun i e => ?_)
        rw [e] at hb
        cases hb
      | false =>
        refine iteT ?_
        obtain ⟨i, rfl⟩ : ∃ i, v = .int i := by
          cases v with
          | int i => exact ⟨i, rfl⟩
          | bl _ => cases hb
          | _ => cases hi'
        refine ⟨.int lo, rfl, .int i, rfl, _, _, rfl, rfl, _, rfl, ite2 (fun h1 => ?_) (fun h1 => ?_)⟩
        · refine ⟨.int i, rfl, .int hi, rfl, _, _, rfl, rfl, ?_⟩
          have e : numV (.int i) lo hi = decide (i ≤ hi) := by simp [numV, of_decide_eq_true h1]
          show Q (.bl (decide (i ≤ hi))) H
          rw [← e]
          exact k _ (Same.refl _)
        · have e : numV (.int i) lo hi = false := by
            have q : ¬ lo ≤ i := fun q => h1 (decide_eq_true q)
            simp [numV, q]
          rw [← e]
          exact k _ (Same.refl _)
end

/-! ### the law's own judgement of rows -/
section
variable {P : Program} {w : World} {K : PySem.W.Frag} {mg : Str → Option Value} {base : Heap} {Z : Fs}
theorem ok_law_code_so (T : Txt K w mg Z) : FnOk P w K mg base CX0 2 Z.a_law_code_so Z.d_law_code_so ["_law_thing"] (sp_is_code_row K) := by
  have G_law_is_title : FnOk P w K mg base CX0 1 Z.a_law_is_title Z.d_law_is_title ["_law_thing"] (sp_law_is_title K) := ok_law_is_title T
  have G_law_within : FnOk P w K mg base CX0 1 Z.a_law_within Z.d_law_within ["_law_thing", "_law_low_y", "_law_high_y"] (sp_law_withinO K) := ok_law_withinO T
  refine T.F_law_code_so.ok sc_law_code_so (fun vs H Q E h => ?_) (fun cdv A outer s H vs Q E hr h => ?_)
  · obtain ⟨v, b, n, o, rfl, _⟩ := h
    rfl
  · obtain ⟨v, b, n, o, rfl, tp, k⟩ := h
    refine ⟨_, (pss_cons (ps_if (PW.pt (pw_or (pt_not (pt_val (pe_callB (call_isi : CallR _ _ (rIsi K)) (by rfl) T.n_isinstance boot_isinstance (pa_cons (pv 0) (pa_cons (pe_bltn (v := .ty "tuple") (by rfl) T.n_tuple boot_tuple rfl) pa_nil))))) (pw_or (pt_cmpR op_eq (pe_callB (Go.c_len : CallR _ _ (Go.RLen K)) (by rfl) T.n_len boot_len (pa_cons (pv 0) pa_nil)) pe_int (nomark _)) (pw_or1 (pt_not (pt_val (pe_callB (call_isi : CallR _ _ (rIsi K)) (by rfl) T.n_isinstance boot_isinstance (pa_cons (pe_ix (ix_tup : IxR _ (rIxT K)) (pv 0) pe_int (fun _ _ => rfl)) (pa_cons (pe_bltn (v := .ty "str") (by rfl) T.n_str boot_str rfl) pa_nil))))))))) (pss_one (ps_ret pe_bl)) pss_nil)
      (pss_cons (ps_par (i := 1) (j := 2) (by rfl) sc_law_code_so.nd rfl rfl (by decide) rfl rfl (pa_cons (pe_ix (ix_tup : IxR _ (rIxT K)) (pv 0) pe_int (fun _ _ => rfl)) (pa_cons (pe_callTy Go.c_list (by rfl) T.n_list boot_list (pa_cons (pe_slice (sl_tup : SlR _ (rSlT K)) (pv 0) (po_some pe_int) po_none) pa_nil)) pa_nil)) (by rfl))
      (pss_cons (ps_if (pt_cmpR (op_in_seq : OpR _ _ (rIn K false)) (pv 1) (pe_tup (pa_cons pe_str (pa_cons pe_str pa_nil))) (by rfl)) (pss_one (ps_ret (pe_cmpR op_eq (pe_callB (Go.c_len : CallR _ _ (Go.RLen K)) (by rfl) T.n_len boot_len (pa_cons (pv 2) pa_nil)) pe_int (nomark _)))) pss_nil)
      (pss_cons (ps_if (pt_cmpR op_eq (pv 1) pe_str (nomark _)) (pss_one (ps_ret (pe_and (pe_cmpR op_eq (pe_callB (Go.c_len : CallR _ _ (Go.RLen K)) (by rfl) T.n_len boot_len (pa_cons (pv 2) pa_nil)) pe_int (nomark _)) (pe_one (pe_call G_law_within (hr.mono (by omega)) (by rfl) T.m_law_within T.F_law_within.kp T.b_law_within .nil pass0 (pa_cons (pe_ix (ix_list : IxR _ (rIxL K)) (pv 2) pe_int (fun _ _ => rfl)) (pa_cons pe_int (pa_cons pe_int pa_nil)))))))) pss_nil)
      (pss_cons (ps_if (pt_cmpR (op_in_seq : OpR _ _ (rIn K false)) (pv 1) (pe_tup (pa_cons pe_str (pa_cons pe_str pa_nil))) (by rfl)) (pss_one (ps_ret (pe_and (pe_cmpR op_eq (pe_callB (Go.c_len : CallR _ _ (Go.RLen K)) (by rfl) T.n_len boot_len (pa_cons (pv 2) pa_nil)) pe_int (nomark _)) (pe_one (pe_call G_law_is_title (hr.mono (by omega)) (by rfl) T.m_law_is_title T.F_law_is_title.kp T.b_law_is_title .nil pass0 (pa_cons (pe_ix (ix_list : IxR _ (rIxL K)) (pv 2) pe_int (fun _ _ => rfl)) pa_nil)))))) pss_nil)
      (pss_cons (ps_if (PW.pt (pw_or (pt_cmpR op_eq (pe_callB (Go.c_len : CallR _ _ (Go.RLen K)) (by rfl) T.n_len boot_len (pa_cons (pv 2) pa_nil)) pe_int (nomark _)) (pw_or (pt_not (pt_val (pe_callB (call_isi : CallR _ _ (rIsi K)) (by rfl) T.n_isinstance boot_isinstance (pa_cons (pe_ix (ix_list : IxR _ (rIxL K)) (pv 2) pe_int (fun _ _ => rfl)) (pa_cons (pe_bltn (v := .ty "str") (by rfl) T.n_str boot_str rfl) pa_nil))))) (pw_or1 (pt_cmpR op_notIn_seq (pe_ix (ix_list : IxR _ (rIxL K)) (pv 2) pe_int (fun _ _ => rfl)) (pe_lst (pa_cons pe_str (pa_cons pe_str (pa_cons pe_str pa_nil)))) (by rfl)))))) (pss_one (ps_ret pe_bl)) pss_nil)
      (pss_cons (ps_if (pt_cmpR (op_in_seq : OpR _ _ (rIn K false)) (pv 1) (pe_tup (pa_cons pe_str (pa_cons pe_str pa_nil))) (by rfl)) (pss_one (ps_ret (pe_cmpR op_eq (pe_callB (Go.c_len : CallR _ _ (Go.RLen K)) (by rfl) T.n_len boot_len (pa_cons (pv 2) pa_nil)) pe_int (nomark _)))) pss_nil)
      (pss_cons (ps_if (pt_cmpR (op_in_seq : OpR _ _ (rIn K false)) (pv 1) (pe_tup (pa_cons pe_str (pa_cons pe_str pa_nil))) (by rfl)) (pss_one (ps_ret (pe_and (pe_cmpR op_eq (pe_callB (Go.c_len : CallR _ _ (Go.RLen K)) (by rfl) T.n_len boot_len (pa_cons (pv 2) pa_nil)) pe_int (nomark _)) (pe_one (pe_call G_law_is_title (hr.mono (by omega)) (by rfl) T.m_law_is_title T.F_law_is_title.kp T.b_law_is_title .nil pass0 (pa_cons (pe_ix (ix_list : IxR _ (rIxL K)) (pv 2) pe_int (fun _ _ => rfl)) pa_nil)))))) pss_nil)
      (pss_cons (ps_if (pt_cmpR op_eq (pv 1) pe_str (nomark _)) (pss_one (ps_ret (pe_and (pe_cmpR op_eq (pe_callB (Go.c_len : CallR _ _ (Go.RLen K)) (by rfl) T.n_len boot_len (pa_cons (pv 2) pa_nil)) pe_int (nomark _)) (pe_one (pe_call G_law_within (hr.mono (by omega)) (by rfl) T.m_law_within T.F_law_within.kp T.b_law_within .nil pass0 (pa_cons (pe_ix (ix_list : IxR _ (rIxL K)) (pv 2) pe_int (fun _ _ => rfl)) (pa_cons pe_int (pa_cons pe_int pa_nil)))))))) pss_nil)
      (pss_cons (ps_if (PW.pt (pw_or (pt_cmpR op_lt (pe_callB (Go.c_len : CallR _ _ (Go.RLen K)) (by rfl) T.n_len boot_len (pa_cons (pv 2) pa_nil)) pe_int (nomark _)) (pw_or (pt_not (pt_val (pe_callB (call_isi : CallR _ _ (rIsi K)) (by rfl) T.n_isinstance boot_isinstance (pa_cons (pe_ix (ix_list : IxR _ (rIxL K)) (pv 2) pe_int (fun _ _ => rfl)) (pa_cons (pe_bltn (v := .ty "str") (by rfl) T.n_str boot_str rfl) pa_nil))))) (pw_or1 (pt_cmpR op_notIn_seq (pe_ix (ix_list : IxR _ (rIxL K)) (pv 2) pe_int (fun _ _ => rfl)) (pe_lst (pa_cons pe_str (pa_cons pe_str (pa_cons pe_str pa_nil)))) (by rfl)))))) (pss_one (ps_ret pe_bl)) pss_nil)
      (pss_cons (ps_if (pt_cmpR (op_in_seq : OpR _ _ (rIn K false)) (pv 1) (pe_tup (pa_cons pe_str (pa_cons pe_str pa_nil))) (by rfl)) (pss_one (ps_ret (pe_cmpR op_eq (pe_callB (Go.c_len : CallR _ _ (Go.RLen K)) (by rfl) T.n_len boot_len (pa_cons (pv 2) pa_nil)) pe_int (nomark _)))) pss_nil)
      (pss_one (ps_ret (pe_and (pe_cmpR (op_in_seq : OpR _ _ (rIn K false)) (pv 1) (pe_tup (pa_cons pe_str (pa_cons pe_str pa_nil))) (by rfl)) (pe_and (pe_cmpR op_eq (pe_callB (Go.c_len : CallR _ _ (Go.RLen K)) (by rfl) T.n_len boot_len (pa_cons (pv 2) pa_nil)) pe_int (nomark _)) (pe_one (pe_call G_law_within (hr.mono (by omega)) (by rfl) T.m_law_within T.F_law_within.kp T.b_law_within .nil pass0 (pa_cons (pe_ix (ix_list : IxR _ (rIxL K)) (pv 2) pe_int (fun _ _ => rfl)) (pa_cons pe_int (pa_cons pe_int pa_nil)))))))))))))))))))), ?_⟩
    cases o with
    | none =>
      obtain ⟨t, ty, kt⟩ := tp
      exact ⟨v, rfl, v, .ty "tuple", t, _, _, rfl, .ty _, ty, kt, _, rfl, iteT (iteT (k _ (Same.refl _)))⟩
    | some xs =>
      obtain ⟨a, rfl, hx, hl, ok⟩ := tp
      refine ⟨.ref a, rfl, .ref a, .ty "tuple", _, _, true, rfl, .ty _, tyx_t hx, kit_ty (by decide +kernel), _, rfl, iteF ?_⟩
      refine ⟨.ref a, rfl, .ref a, xs.length, rfl, .inr ⟨_, hx, rfl⟩, rfl, _, rfl, ?_⟩
      cases xs with
      | nil => exact iteY rfl (iteT (k _ (Same.refl _)))
      | cons x r =>
      refine iteN (by simp; omega) ?_
      obtain ⟨t, ty, kS', _, _⟩ := (ok x (List.mem_cons_self ..)).ty
      refine ⟨.ref a, rfl, a, _, 0, x, rfl, rfl, hx, atI_nat (j := 0) rfl, x, .ty "str", t, _, _, rfl, .ty _, ty, kS', _, rfl, ?_⟩
      cases hv : isS x with
      | false =>
        refine iteT ?_
        have e : codeO (some (x :: r)) = false := by
          have e2 : hdS (some (x :: r)) = "" := by
            cases x with
            | str z => cases hv
            | _ => rfl
          unfold codeO
          rw [e2, show findT tb_CODE_ROWS "" = none by decide +kernel]
        rw [← e]
        exact k _ (Same.refl _)
      | true =>
      obtain ⟨u, rfl⟩ := isS_of hv
      refine iteF ?_
      -- own, rest
      refine ⟨.ref a, rfl, a, _, 0, .str u, rfl, rfl, hx, atI_nat (j := 0) rfl, .ref a, rfl, 1, rfl, a, _, rfl, hx, ?_, fun p hp => ?_⟩
      · rintro ⟨z, _⟩
        rw [show HT.sIx (V.str u :: r).length 0 (some 1) = min 1 (V.str u :: r).length from HT.sIx_nat _ 0 1, List.length_cons] at z
        omega
      rw [cut_tl]
      have s1 : Same H (upd H p (.tup r)) := Same.new hp
      have e1 : (upd H p (.tup r)) p = some (.tup r) := upd_same
      generalize upd H p (.tup r) = H1 at s1 e1 ⊢
      refine ⟨p, _, rfl, .inr (SqT.of e1), fun q hq => ⟨_, _, rfl, ?_⟩⟩
      have s2 : Same H (upd H1 q (.lst r)) := s1.trans (Same.new hq)
      have eq : (upd H1 q (.lst r)) q = some (.lst r) := upd_same
      generalize upd H1 q (.lst r) = H2 at s2 eq ⊢
      clear s1 e1 hq hp
      have okr : ∀ H', Same H H' → ∀ x ∈ r, Okv K H' b n x := fun H' s' x m => (ok x (List.mem_cons_of_mem _ m)).stp (Same.stp s')
      have fin : ∀ (c : Bool) (H' : Hp), Same H H' → codeO (some (.str u :: r)) = c → Q (.bl c) H' := fun c H' s' e => by
        rw [← e]
        exact k _ s'
      -- back, halt
      refine ⟨.str u, rfl, (by show 2 ≤ sizeLine; decide), fun p3 h3 => ?_⟩
      have s3 : Same H (upd H2 p3 (.tup [V.str "back", V.str "halt"])) := s2.trans (Same.new h3)
      have eq3 := Same.new (o := .tup [V.str "back", V.str "halt"]) h3 _ _ eq
      refine ⟨p3, _, rfl, .inr (SqT.of upd_same), rfl, rfl, _, rfl, ?_⟩
      generalize upd H2 p3 (.tup [V.str "back", V.str "halt"]) = H3 at s3 eq3 ⊢
      rw [if_neg Bool.false_ne_true]
      cases c1 : inV (.str u) [.str "back", .str "halt"] with
      | true =>
        refine iteT ⟨.ref q, rfl, .ref q, r.length, rfl, .inl ⟨_, SqL.of eq3, rfl⟩, rfl, ?_⟩
        refine fin _ _ s3 ?_
        rw [co_0 (in2.mp c1)]
        rw [Bool.eq_iff_iff]
        simp
      | false =>
      replace c1 := in2f.mp c1
      refine iteF ?_
      -- room
      refine ⟨.str u, rfl, rfl, _, rfl, ite2 (fun c2 => ?_) (fun c2 => ?_)⟩
      · have c2 : u = "room" := V.str.inj (of_decide_eq_true c2)
        subst c2
        refine ⟨.ref q, rfl, .ref q, r.length, rfl, .inl ⟨_, SqL.of eq3, rfl⟩, rfl, _, rfl, ite2 (fun d1 => ?_) (fun d1 => ?_)⟩
        · have d1 : r.length = 1 := by
            have d := of_decide_eq_true d1
            injection d with d
            omega
          obtain ⟨a0, m0⟩ := getD_at (r := r) (i := 0) (by omega)
          refine ⟨.ref q, rfl, q, r, 0, _, rfl, rfl, SqL.of eq3, a0, _, 1, 120, b, n, rfl, okr _ s3 _ m0, fun H4 s4 => fin _ _ (s3.trans s4) ?_⟩
          rw [co_room, decide_eq_true d1, Bool.true_and]
        · refine fin _ _ s3 ?_
          rw [co_room, decide_eq_false (fun z => d1 (decide_eq_true (by rw [z]; rfl))), Bool.false_and]
      replace c2 : u ≠ "room" := fun z => c2 (decide_eq_true (by rw [z]))
      -- jump, call
      refine ⟨.str u, rfl, (by show 2 ≤ sizeLine; decide), fun p4 h4 => ?_⟩
      have s4 : Same H (upd H3 p4 (.tup [V.str "jump", V.str "call"])) := s3.trans (Same.new h4)
      have eq4 := Same.new (o := .tup [V.str "jump", V.str "call"]) h4 _ _ eq3
      refine ⟨p4, _, rfl, .inr (SqT.of upd_same), rfl, rfl, _, rfl, ?_⟩
      generalize upd H3 p4 (.tup [V.str "jump", V.str "call"]) = H4 at s4 eq4 ⊢
      rw [if_neg Bool.false_ne_true]
      cases c3 : inV (.str u) [.str "jump", .str "call"] with
      | true =>
        replace c3 := in2.mp c3
        refine iteT ⟨.ref q, rfl, .ref q, r.length, rfl, .inl ⟨_, SqL.of eq4, rfl⟩, rfl, _, rfl, ite2 (fun d1 => ?_) (fun d1 => ?_)⟩
        · have d1 : r.length = 1 := by
            have d := of_decide_eq_true d1
            injection d with d
            omega
          obtain ⟨a0, m0⟩ := getD_at (r := r) (i := 0) (by omega)
          refine ⟨.ref q, rfl, q, r, 0, _, rfl, rfl, SqL.of eq4, a0, _, b, n, rfl, okr _ s4 _ m0, fun H5 s5 => fin _ _ (s4.trans s5) ?_⟩
          rw [co_N c3, decide_eq_true d1, Bool.true_and]
        · refine fin _ _ s4 ?_
          rw [co_N c3, decide_eq_false (fun z => d1 (decide_eq_true (by rw [z]; rfl))), Bool.false_and]
      | false =>
      replace c3 := in2f.mp c3
      refine iteF ?_
      -- the first register
      refine ⟨.ref q, rfl, .ref q, r.length, rfl, .inl ⟨_, SqL.of eq4, rfl⟩, rfl, _, rfl, ite2 (fun d1 => ?_) (fun d1 => ?_)⟩
      · have d1 : r = [] := by
          have d := of_decide_eq_true d1
          cases r with
          | nil => rfl
          | cons x t =>
            injection d with d
            rw [List.length_cons] at d
            omega
        subst d1
        exact iteT (fin _ _ s4 (co_no0 c1 c2 c3 rfl))
      replace d1 : 0 < r.length := by
        rcases Nat.eq_zero_or_pos r.length with z | z
        · exact absurd (decide_eq_true (by rw [z]; rfl)) d1
        · exact z
      obtain ⟨a0, m0⟩ := getD_at (r := r) (i := 0) d1
      obtain ⟨t0, ty0, k0, _, _⟩ := (okr _ s4 _ m0).ty
      refine ⟨.ref q, rfl, q, r, 0, _, rfl, rfl, SqL.of eq4, a0, _, .ty "str", t0, _, _, rfl, .ty _, ty0, k0, _, rfl, ?_⟩
      cases f0 : isS (r.getD 0 .non) with
      | false => exact iteT (iteT (fin _ _ s4 (co_no0 c1 c2 c3 (by unfold regV; rw [f0, Bool.false_and]))))
      | true =>
      refine iteF ?_
      obtain ⟨z0, ez0⟩ := isS_of f0
      refine ⟨.ref q, rfl, q, r, 0, _, rfl, rfl, SqL.of eq4, a0, (by show 3 ≤ sizeLine; decide), fun p5 h5 => ?_⟩
      have s5 : Same H (upd H4 p5 (.lst [V.str "r0", V.str "r1", V.str "r2"])) := s4.trans (Same.new h5)
      have eq5 := Same.new (o := .lst [V.str "r0", V.str "r1", V.str "r2"]) h5 _ _ eq4
      refine ⟨p5, regs, rfl, .inl (SqL.of upd_same), (by rw [ez0]; rfl), rfl, _, rfl, ?_⟩
      generalize upd H4 p5 (.lst [V.str "r0", V.str "r1", V.str "r2"]) = H5 at s5 eq5 ⊢
      rw [if_pos rfl]
      cases g0 : inV (r.getD 0 .non) regs with
      | false => exact iteT (fin _ _ s5 (co_no0 c1 c2 c3 (by unfold regV; rw [g0, Bool.and_false])))
      | true =>
      have R0 : regV (r.getD 0 .non) = true := by unfold regV; rw [f0, g0]; rfl
      refine iteF ?_
      -- callby, out
      refine ⟨.str u, rfl, (by show 2 ≤ sizeLine; decide), fun p6 h6 => ?_⟩
      have s6 : Same H (upd H5 p6 (.tup [V.str "callby", V.str "out"])) := s5.trans (Same.new h6)
      have eq6 := Same.new (o := .tup [V.str "callby", V.str "out"]) h6 _ _ eq5
      refine ⟨p6, _, rfl, .inr (SqT.of upd_same), rfl, rfl, _, rfl, ?_⟩
      generalize upd H5 p6 (.tup [V.str "callby", V.str "out"]) = H6 at s6 eq6 ⊢
      rw [if_neg Bool.false_ne_true]
      cases c4 : inV (.str u) [.str "callby", .str "out"] with
      | true =>
        refine iteT ⟨.ref q, rfl, .ref q, r.length, rfl, .inl ⟨_, SqL.of eq6, rfl⟩, rfl, fin _ _ s6 ?_⟩
        rw [co_R (in2.mp c4), R0, Bool.and_true, Bool.eq_iff_iff]
        simp
        omega
      | false =>
      replace c4 := in2f.mp c4
      refine iteF ?_
      -- name, ifzero
      refine ⟨.str u, rfl, (by show 2 ≤ sizeLine; decide), fun p7 h7 => ?_⟩
      have s7 : Same H (upd H6 p7 (.tup [V.str "name", V.str "ifzero"])) := s6.trans (Same.new h7)
      have eq7 := Same.new (o := .tup [V.str "name", V.str "ifzero"]) h7 _ _ eq6
      refine ⟨p7, _, rfl, .inr (SqT.of upd_same), rfl, rfl, _, rfl, ?_⟩
      generalize upd H6 p7 (.tup [V.str "name", V.str "ifzero"]) = H7 at s7 eq7 ⊢
      rw [if_neg Bool.false_ne_true]
      cases c5 : inV (.str u) [.str "name", .str "ifzero"] with
      | true =>
        replace c5 := in2.mp c5
        refine iteT ⟨.ref q, rfl, .ref q, r.length, rfl, .inl ⟨_, SqL.of eq7, rfl⟩, rfl, _, rfl, ite2 (fun d2 => ?_) (fun d2 => ?_)⟩
        · have d2 : r.length = 2 := by
            have d := of_decide_eq_true d2
            injection d with d
            omega
          obtain ⟨a1, m1⟩ := getD_at (r := r) (i := 1) (by omega)
          refine ⟨.ref q, rfl, q, r, 1, _, rfl, rfl, SqL.of eq7, a1, _, b, n, rfl, okr _ s7 _ m1, fun H8 s8 => fin _ _ (s7.trans s8) ?_⟩
          rw [co_RN c5, decide_eq_true d2, R0, Bool.true_and, Bool.true_and]
        · refine fin _ _ s7 ?_
          rw [co_RN c5, decide_eq_false (fun z => d2 (decide_eq_true (by rw [z]; rfl))), Bool.false_and]
      | false =>
      replace c5 := in2f.mp c5
      refine iteF ?_
      -- put
      refine ⟨.str u, rfl, rfl, _, rfl, ite2 (fun c6 => ?_) (fun c6 => ?_)⟩
      · have c6 : u = "put" := V.str.inj (of_decide_eq_true c6)
        subst c6
        refine ⟨.ref q, rfl, .ref q, r.length, rfl, .inl ⟨_, SqL.of eq7, rfl⟩, rfl, _, rfl, ite2 (fun d2 => ?_) (fun d2 => ?_)⟩
        · have d2 : r.length = 2 := by
            have d := of_decide_eq_true d2
            injection d with d
            omega
          obtain ⟨a1, m1⟩ := getD_at (r := r) (i := 1) (by omega)
          refine ⟨.ref q, rfl, q, r, 1, _, rfl, rfl, SqL.of eq7, a1, _, 0, 65535, b, n, rfl, okr _ s7 _ m1, fun H8 s8 => fin _ _ (s7.trans s8) ?_⟩
          rw [co_put, decide_eq_true d2, R0, Bool.true_and, Bool.true_and]
        · refine fin _ _ s7 ?_
          rw [co_put, decide_eq_false (fun z => d2 (decide_eq_true (by rw [z]; rfl))), Bool.false_and]
      replace c6 : u ≠ "put" := fun z => c6 (decide_eq_true (by rw [z]))
      -- the second register
      refine ⟨.ref q, rfl, .ref q, r.length, rfl, .inl ⟨_, SqL.of eq7, rfl⟩, _, _, rfl, rfl, _, rfl, ite2 (fun d2 => ?_) (fun d2 => ?_)⟩
      · have d2 : r.length < 2 := by
          have d := of_decide_eq_true d2
          omega
        refine iteT (fin _ _ s7 (co_no1 c1 c2 c3 c4 c5 c6 ?_))
        rw [List.getD_eq_getElem?_getD, List.getElem?_eq_none (by omega)]
        rfl
      replace d2 : 2 ≤ r.length := by
        have q : ¬ ((r.length : Int) < 2) := fun z => d2 (decide_eq_true z)
        omega
      obtain ⟨a1, m1⟩ := getD_at (r := r) (i := 1) (by omega)
      obtain ⟨t1, ty1, k1, _, _⟩ := (okr _ s7 _ m1).ty
      refine ⟨.ref q, rfl, q, r, 1, _, rfl, rfl, SqL.of eq7, a1, _, .ty "str", t1, _, _, rfl, .ty _, ty1, k1, _, rfl, ?_⟩
      cases f1 : isS (r.getD 1 .non) with
      | false => exact iteT (iteT (fin _ _ s7 (co_no1 c1 c2 c3 c4 c5 c6 (by unfold regV; rw [f1, Bool.false_and]))))
      | true =>
      refine iteF ?_
      obtain ⟨z1, ez1⟩ := isS_of f1
      refine ⟨.ref q, rfl, q, r, 1, _, rfl, rfl, SqL.of eq7, a1, (by show 3 ≤ sizeLine; decide), fun p8 h8 => ?_⟩
      have s8 : Same H (upd H7 p8 (.lst [V.str "r0", V.str "r1", V.str "r2"])) := s7.trans (Same.new h8)
      have eq8 := Same.new (o := .lst [V.str "r0", V.str "r1", V.str "r2"]) h8 _ _ eq7
      refine ⟨p8, regs, rfl, .inl (SqL.of upd_same), (by rw [ez1]; rfl), rfl, _, rfl, ?_⟩
      generalize upd H7 p8 (.lst [V.str "r0", V.str "r1", V.str "r2"]) = H8 at s8 eq8 ⊢
      rw [if_pos rfl]
      cases g1 : inV (r.getD 1 .non) regs with
      | false => exact iteT (fin _ _ s8 (co_no1 c1 c2 c3 c4 c5 c6 (by unfold regV; rw [g1, Bool.and_false])))
      | true =>
      have R1 : regV (r.getD 1 .non) = true := by unfold regV; rw [f1, g1]; rfl
      refine iteF ?_
      -- add, take
      refine ⟨.str u, rfl, (by show 2 ≤ sizeLine; decide), fun p9 h9 => ?_⟩
      have s9 : Same H (upd H8 p9 (.tup [V.str "add", V.str "take"])) := s8.trans (Same.new h9)
      have eq9 := Same.new (o := .tup [V.str "add", V.str "take"]) h9 _ _ eq8
      refine ⟨p9, _, rfl, .inr (SqT.of upd_same), rfl, rfl, _, rfl, ?_⟩
      generalize upd H8 p9 (.tup [V.str "add", V.str "take"]) = H9 at s9 eq9 ⊢
      rw [if_neg Bool.false_ne_true]
      cases c7 : inV (.str u) [.str "add", .str "take"] with
      | true =>
        refine iteT ⟨.ref q, rfl, .ref q, r.length, rfl, .inl ⟨_, SqL.of eq9, rfl⟩, rfl, fin _ _ s9 ?_⟩
        rw [co_RR (in2.mp c7), R0, R1, Bool.true_and, Bool.and_true, Bool.eq_iff_iff]
        simp
        omega
      | false =>
      replace c7 := in2f.mp c7
      refine iteF ?_
      -- load, store
      refine ⟨.str u, rfl, (by show 2 ≤ sizeLine; decide), fun p10 h10 => ?_⟩
      have s10 : Same H (upd H9 p10 (.tup [V.str "load", V.str "store"])) := s9.trans (Same.new h10)
      have eq10 := Same.new (o := .tup [V.str "load", V.str "store"]) h10 _ _ eq9
      refine ⟨p10, _, rfl, .inr (SqT.of upd_same), rfl, rfl, _, rfl, ?_⟩
      generalize upd H9 p10 (.tup [V.str "load", V.str "store"]) = H10 at s10 eq10 ⊢
      rw [if_neg Bool.false_ne_true]
      cases c8 : inV (.str u) [.str "load", .str "store"] with
      | true =>
        replace c8 := in2.mp c8
        refine iteT ⟨.ref q, rfl, .ref q, r.length, rfl, .inl ⟨_, SqL.of eq10, rfl⟩, rfl, _, rfl, ite2 (fun d3 => ?_) (fun d3 => ?_)⟩
        · have d3 : r.length = 3 := by
            have d := of_decide_eq_true d3
            injection d with d
            omega
          obtain ⟨a2, m2⟩ := getD_at (r := r) (i := 2) (by omega)
          refine ⟨.ref q, rfl, q, r, 2, _, rfl, rfl, SqL.of eq10, a2, _, 0, 15, b, n, rfl, okr _ s10 _ m2, fun H11 s11 => fin _ _ (s10.trans s11) ?_⟩
          rw [co_RRd c8, decide_eq_true d3, R0, R1, Bool.true_and, Bool.true_and, Bool.true_and]
        · refine fin _ _ s10 ?_
          rw [co_RRd c8, decide_eq_false (fun z => d3 (decide_eq_true (by rw [z]; rfl))), Bool.false_and]
      | false =>
      replace c8 := in2f.mp c8
      refine iteF (fin _ _ s10 ?_)
      rcases cls u with c | c | c | c | c | c | c | c | c
      · exact absurd c c1
      · exact absurd c c2
      · exact absurd c c3
      · exact absurd c c4
      · exact absurd c c5
      · exact absurd c c6
      · exact absurd c c7
      · exact absurd c c8
      · exact codeO_no c
end

section
variable {P : Program} {w : World} {K : PySem.W.Frag} {mg : Str → Option Value} {base : Heap} {Z : Fs}
theorem dataO_len {o : Option (List V)} (h : ∀ u x, o ≠ some [.str u, x]) : dataO o = false := by
  match o with
  | none => rfl
  | some [] => rfl
  | some (v :: r) =>
    cases hv : isS v with
    | false =>
      have e2 : hdS (some (v :: r)) = "" := by
        cases v with
        | str z => cases hv
        | _ => rfl
      unfold dataO
      rw [e2, show findT tb_DATA_ROWS "" = none by decide +kernel]
    | true =>
      obtain ⟨u, rfl⟩ := isS_of hv
      have hl : ¬ r.length = 1 := fun z => by
        match r, z with
        | [x], _ => exact h u x rfl
      rcases clsD u with c | c | c | c
      · subst c
        rw [da_word, decide_eq_false hl, Bool.false_and]
      · subst c
        rw [da_addr, decide_eq_false hl, Bool.false_and]
      · subst c
        rw [da_room, decide_eq_false hl, Bool.false_and]
      · exact dataO_no c
theorem ok_law_data_so (T : Txt K w mg Z) : FnOk P w K mg base CX0 2 Z.a_law_data_so Z.d_law_data_so ["_law_thing"] (sp_is_data_row K) := by
  have G_law_is_title : FnOk P w K mg base CX0 1 Z.a_law_is_title Z.d_law_is_title ["_law_thing"] (sp_law_is_title K) := ok_law_is_title T
  have G_law_within : FnOk P w K mg base CX0 1 Z.a_law_within Z.d_law_within ["_law_thing", "_law_low_y", "_law_high_y"] (sp_law_withinO K) := ok_law_withinO T
  refine T.F_law_data_so.ok sc_law_data_so (fun vs H Q E h => ?_) (fun cdv A outer s H vs Q E hr h => ?_)
  · obtain ⟨v, b, n, o, rfl, _⟩ := h
    rfl
  · obtain ⟨v, b, n, o, rfl, tp, k⟩ := h
    refine ⟨_, (pss_cons (ps_if (PW.pt (pw_or (pt_not (pt_val (pe_callB (call_isi : CallR _ _ (rIsi K)) (by rfl) T.n_isinstance boot_isinstance (pa_cons (pv 0) (pa_cons (pe_bltn (v := .ty "tuple") (by rfl) T.n_tuple boot_tuple rfl) pa_nil))))) (pw_or (pt_cmpR op_ne (pe_callB (Go.c_len : CallR _ _ (Go.RLen K)) (by rfl) T.n_len boot_len (pa_cons (pv 0) pa_nil)) pe_int (nomark _)) (pw_or1 (pt_not (pt_val (pe_callB (call_isi : CallR _ _ (rIsi K)) (by rfl) T.n_isinstance boot_isinstance (pa_cons (pe_ix (ix_tup : IxR _ (rIxT K)) (pv 0) pe_int (fun _ _ => rfl)) (pa_cons (pe_bltn (v := .ty "str") (by rfl) T.n_str boot_str rfl) pa_nil))))))))) (pss_one (ps_ret pe_bl)) pss_nil)
      (pss_cons (ps_if (pt_cmpR op_eq (pe_ix (ix_tup : IxR _ (rIxT K)) (pv 0) pe_int (fun _ _ => rfl)) pe_str (nomark _)) (pss_one (ps_ret (pe_call G_law_within (hr.mono (by omega)) (by rfl) T.m_law_within T.F_law_within.kp T.b_law_within .nil pass0 (pa_cons (pe_ix (ix_tup : IxR _ (rIxT K)) (pv 0) pe_int (fun _ _ => rfl)) (pa_cons pe_int (pa_cons pe_int pa_nil)))))) pss_nil)
      (pss_cons (ps_if (pt_cmpR op_eq (pe_ix (ix_tup : IxR _ (rIxT K)) (pv 0) pe_int (fun _ _ => rfl)) pe_str (nomark _)) (pss_one (ps_ret (pe_call G_law_is_title (hr.mono (by omega)) (by rfl) T.m_law_is_title T.F_law_is_title.kp T.b_law_is_title .nil pass0 (pa_cons (pe_ix (ix_tup : IxR _ (rIxT K)) (pv 0) pe_int (fun _ _ => rfl)) pa_nil)))) pss_nil)
      (pss_one (ps_ret (pe_and (pe_cmpR op_eq (pe_ix (ix_tup : IxR _ (rIxT K)) (pv 0) pe_int (fun _ _ => rfl)) pe_str (nomark _)) (pe_one (pe_call G_law_within (hr.mono (by omega)) (by rfl) T.m_law_within T.F_law_within.kp T.b_law_within .nil pass0 (pa_cons (pe_ix (ix_tup : IxR _ (rIxT K)) (pv 0) pe_int (fun _ _ => rfl)) (pa_cons pe_int (pa_cons pe_int pa_nil))))))))))), ?_⟩
    have no : (∀ u x, o ≠ some [.str u, x]) → Q (.bl false) H := fun z => by
      rw [← dataO_len z]
      exact k _ (Same.refl _)
    cases o with
    | none =>
      obtain ⟨t, ty, kt⟩ := tp
      exact ⟨v, rfl, v, .ty "tuple", t, _, _, rfl, .ty _, ty, kt, _, rfl, iteT (iteT (no (fun _ _ z => nomatch z)))⟩
    | some xs =>
      obtain ⟨a, rfl, hx, hl, ok⟩ := tp
      refine ⟨.ref a, rfl, .ref a, .ty "tuple", _, _, true, rfl, .ty _, tyx_t hx, kit_ty (by decide +kernel), _, rfl, iteF ?_⟩
      refine ⟨.ref a, rfl, .ref a, xs.length, rfl, .inr ⟨_, hx, rfl⟩, rfl, _, rfl, ?_⟩
      by_cases h2 : xs.length = 2
      · have e0 : (!decide (V.int (xs.length : Int) = V.int 2)) = false := by simp [h2]
        rw [e0]
        refine iteF ?_
        match xs, h2 with
        | [x, y], _ =>
        obtain ⟨t, ty, kS', _, _⟩ := (ok x (List.mem_cons_self ..)).ty
        refine ⟨.ref a, rfl, a, _, 0, x, rfl, rfl, hx, atI_nat (j := 0) rfl, x, .ty "str", t, _, _, rfl, .ty _, ty, kS', _, rfl, ?_⟩
        cases hv : isS x with
        | false =>
          refine iteT (no fun u x z => ?_)
          cases z
          cases hv
        | true =>
        obtain ⟨u, rfl⟩ := isS_of hv
        refine iteF ?_
        have oy := ok y (List.mem_cons_of_mem _ (List.mem_cons_self ..))
        refine ⟨.ref a, rfl, a, _, 0, .str u, rfl, rfl, hx, atI_nat (j := 0) rfl, rfl, _, rfl, ite2 (fun c => ?_) (fun c1 => ?_)⟩
        · have c := V.str.inj (of_decide_eq_true c)
          subst c
          refine ⟨.ref a, rfl, a, _, 1, y, rfl, rfl, hx, atI_nat (j := 1) rfl, y, 0, 65535, b, n, rfl, oy, fun H1 s1 => ?_⟩
          rw [show numV y 0 65535 = dataO (some [.str "word", y]) by rw [da_word]; rfl]
          exact k _ s1
        refine ⟨.ref a, rfl, a, _, 0, .str u, rfl, rfl, hx, atI_nat (j := 0) rfl, rfl, _, rfl, ite2 (fun c => ?_) (fun c2 => ?_)⟩
        · have c := V.str.inj (of_decide_eq_true c)
          subst c
          refine ⟨.ref a, rfl, a, _, 1, y, rfl, rfl, hx, atI_nat (j := 1) rfl, y, b, n, rfl, oy, fun H1 s1 => ?_⟩
          rw [show nmV y = dataO (some [.str "address", y]) by rw [da_addr]; rfl]
          exact k _ s1
        refine ⟨.ref a, rfl, a, _, 0, .str u, rfl, rfl, hx, atI_nat (j := 0) rfl, rfl, _, rfl, ite2 (fun c => ?_) (fun c3 => ?_)⟩
        · have c := V.str.inj (of_decide_eq_true c)
          subst c
          refine ⟨.ref a, rfl, a, _, 1, y, rfl, rfl, hx, atI_nat (j := 1) rfl, y, 1, 120, b, n, rfl, oy, fun H1 s1 => ?_⟩
          rw [show numV y 1 120 = dataO (some [.str "room", y]) by rw [da_room]; rfl]
          exact k _ s1
        · have e : dataO (some [.str u, y]) = false := by
            rcases clsD u with z | z | z | z
            · exact absurd (decide_eq_true (by rw [z])) c1
            · exact absurd (decide_eq_true (by rw [z])) c2
            · exact absurd (decide_eq_true (by rw [z])) c3
            · exact dataO_no z
          show Q (.bl false) H
          rw [← e]
          exact k _ (Same.refl _)
      · have e0 : (!decide (V.int (xs.length : Int) = V.int 2)) = true := by
          simp
          omega
        rw [e0]
        refine iteT (no fun u x z => ?_)
        cases z
        exact h2 rfl
end

open Lend LamX NdefX SupX
theorem inV_str {z : Str} : ∀ {l : List Str}, inV (.str z) (l.map V.str) = l.contains z := by
  intro l
  induction l with
  | nil => rfl
  | cons a r ih =>
    show (eqV (.str a) (.str z) || inV (.str z) (r.map V.str)) = _
    rw [ih, List.contains_cons]
    have e : eqV (.str a) (.str z) = (z == a) := by
      show (a == z) = (z == a)
      rw [Bool.eq_iff_iff]
      constructor
      · intro h
        exact beq_iff_eq.mpr (eq_of_beq h).symm
      · intro h
        exact beq_iff_eq.mpr (eq_of_beq h).symm
    rw [e]
theorem inT {K : PySem.W.Frag} {neg : Bool} {H : Hp} {z : Str} {p : Addr} {l : List Str} {b : Bool} {Q : VK} (h : SqT K H p (l.map V.str)) (e : l.contains z = b) (q : Q (.bl (if neg = true then !b else b)) H) : rIn K neg (.str z) (.ref p) H Q :=
  ⟨p, _, rfl, .inr h, rfl, by rw [List.all_eq_true]; intro x hx; obtain ⟨y, _, rfl⟩ := List.mem_map.mp hx; rfl, by rw [inV_str, e]; exact q⟩
section
variable {P : Program} {w : World} {K : PySem.W.Frag} {mg : Str → Option Value} {base : Heap} {Z : Fs}
def partsL : List Str := ["code", "data"]
def scopesL : List Str := ["local", "export", "open", "weak"]
def partD : PyData → Bool
  | .str z => partsL.contains z
  | _ => false
def alignD : PyData → Bool
  | .int i => decide (1 ≤ i) && decide (i ≤ 16) && (decide (i = 1) || decide (i = 2) || decide (i = 4) || decide (i = 8) || decide (i = 16))
  | _ => false
def scopeD (p : Str) : PyData → Bool
  | .str z => scopesL.contains z && (decide (p = "code") || !decide (z = "open"))
  | _ => false
def sp_is_part (K : PySem.W.Frag) : Sp := fun vs H Q _ => ∃ (v : V) (b : Addr) (d : PyData), vs = [v] ∧ Dt K H b v d ∧ ∀ H' : Hp, Same H H' → Q (.bl (partD d)) H'
theorem ok_is_part (T : Txt K w mg Z) : FnOk P w K mg base CX0 1 Z.a_is_part Z.d_is_part ["value"] (sp_is_part K) := by
  have tC : ∀ G : Hp, SqT K G Z.c_PARTS (partsL.map V.str) := T.v_PARTS
  refine T.F_is_part.ok sc_is_part (fun vs H Q E h => ?_) (fun cdv A outer s H vs Q E hr h => ?_)
  · obtain ⟨v, b, d, rfl, _⟩ := h
    rfl
  · obtain ⟨v, b, d, rfl, h, k⟩ := h
    refine ⟨_, (pss_one (ps_ret (pe_and (pe_callB (call_isi : CallR _ _ (rIsi K)) (by rfl) T.n_isinstance boot_isinstance (pa_cons (pv 0) (pa_cons (pe_bltn (v := .ty "str") (by rfl) T.n_str boot_str rfl) pa_nil))) (pe_one (pe_cmpR (op_in_seq : OpR _ _ (rIn K false)) (pv 0) (pe_glob (v := .ref Z.c_PARTS) (by rfl) T.g_PARTS rfl) (by rfl)))))), ?_⟩
    rw [show L2.start N_is_part [v] = [some (v)] from rfl]
    try dsimp only [cxOf, Cx.nox]
    cases h with
    | @str z hz =>
      tm_at "go"
      refine inT (tC _) rfl ?_
      tm_at "go"
      exact k _ (by tm_at "same")
    | non => tm_at "go"; exact k _ (by tm_at "same")
    | bl v => tm_at "go"; exact k _ (by tm_at "same")
    | int v => tm_at "go"; exact k _ (by tm_at "same")
    | lst u1 u2 u3 u4 => tm_at "go"; exact k _ (by tm_at "same")
    | tup u1 u2 u3 u4 => tm_at "go"; exact k _ (by tm_at "same")
def sp_is_scope_of (K : PySem.W.Frag) : Sp := fun vs H Q _ => ∃ (p : Str) (v : V) (b : Addr) (d : PyData), vs = [.str p, v] ∧ Dt K H b v d ∧ ∀ H' : Hp, Same H H' → Q (.bl (scopeD p d)) H'
theorem ok_is_scope_of (T : Txt K w mg Z) : FnOk P w K mg base CX0 1 Z.a_is_scope_of Z.d_is_scope_of ["part", "value"] (sp_is_scope_of K) := by
  have tC : ∀ G : Hp, SqT K G Z.c_SCOPES (scopesL.map V.str) := T.v_SCOPES
  refine T.F_is_scope_of.ok sc_is_scope_of (fun vs H Q E h => ?_) (fun cdv A outer s H vs Q E hr h => ?_)
  · obtain ⟨p, v, b, d, rfl, _⟩ := h
    rfl
  · obtain ⟨p, v, b, d, rfl, h, k⟩ := h
    refine ⟨_, (pss_cons (ps_if (PW.pt (pw_or (pt_not (pt_val (pe_callB (call_isi : CallR _ _ (rIsi K)) (by rfl) T.n_isinstance boot_isinstance (pa_cons (pv 1) (pa_cons (pe_bltn (v := .ty "str") (by rfl) T.n_str boot_str rfl) pa_nil))))) (pw_or1 (pt_cmpR op_notIn_seq (pv 1) (pe_glob (v := .ref Z.c_SCOPES) (by rfl) T.g_SCOPES rfl) (by rfl))))) (pss_one (ps_ret pe_bl)) pss_nil)
      (pss_one (ps_ret (pe_or (pe_cmpR op_eq (pv 0) pe_str (nomark _)) (pe_one (pe_cmpR op_ne (pv 1) pe_str (nomark _))))))), ?_⟩
    rw [show L2.start N_is_scope_of [V.str p, v] = [some (V.str p), some (v)] from rfl]
    try dsimp only [cxOf, Cx.nox]
    cases h with
    | @str z hz =>
      cases hc : scopesL.contains z with
      | true =>
        tm_at "go"
        refine inT (tC _) hc ?_
        tm_at "go"
        all_goals (refine Go.bE ?_ (k _ (by tm_at "same")); show _ = (scopesL.contains z && _); rw [hc]; simp [*])
      | false =>
        tm_at "go"
        refine inT (tC _) hc ?_
        tm_at "go"
        all_goals (refine Go.bE ?_ (k _ (by tm_at "same")); show _ = (scopesL.contains z && _); rw [hc]; rfl)
    | non => tm_at "go"; exact k _ (by tm_at "same")
    | bl v => tm_at "go"; exact k _ (by tm_at "same")
    | int v => tm_at "go"; exact k _ (by tm_at "same")
    | lst u1 u2 u3 u4 => tm_at "go"; exact k _ (by tm_at "same")
    | tup u1 u2 u3 u4 => tm_at "go"; exact k _ (by tm_at "same")
end


/-! ### rows, pieces: what stands in the heap -/
def RowsIn (H : Hp) (as : List Addr) (rs : List (List V)) : Prop := Paired (fun a xs => H a = some (.tup xs)) as rs
/-- no tuple is lost -/
def TupS (H H' : Hp) : Prop := ∀ a xs, H a = some (.tup xs) → H' a = some (.tup xs)
theorem Same.tups {H H' : Hp} (s : Same H H') : TupS H H' := fun a xs e => s _ _ e
theorem Stp.tups {H H' : Hp} {b l : Addr} (s : Stp b H H') (B : Bag H b l) : TupS H H' := fun a xs e => by
  obtain ⟨_, _, _, _, _, h1, _⟩ := B
  exact s _ _ (ne_of e h1 (by intro z; cases z)) e
theorem TupS.trans {H H' H'' : Hp} (s : TupS H H') (t : TupS H' H'') : TupS H H'' := fun a xs e => t _ _ (s _ _ e)
theorem TupS.put {H H' : Hp} {p : Addr} {o : HO} (s : TupS H H') (h : ∀ xs, H' p ≠ some (.tup xs)) : TupS H (upd H' p o) := fun a xs e => by
  have q := s a xs e
  by_cases z : a = p
  · rw [z] at q
    exact absurd q (h xs)
  · rw [upd_ne z]
    exact q
theorem RowsIn.tups {H H' : Hp} {as : List Addr} {rs : List (List V)} (s : TupS H H') (h : RowsIn H as rs) : RowsIn H' as rs := Paired.mapP h fun _ _ e => s _ _ e
theorem RowsIn.len {H : Hp} {as : List Addr} {rs : List (List V)} (h : RowsIn H as rs) : as.length = rs.length := Paired.length h
theorem RowsIn.get {H : Hp} : ∀ {as : List Addr} {rs : List (List V)} (h : RowsIn H as rs) {i : Nat} {v : V}, (as.map V.ref)[i]? = some v → ∃ a xs, v = .ref a ∧ as[i]? = some a ∧ rs[i]? = some xs ∧ H a = some (.tup xs)
  | _, _, .nil, i, v, e => by cases e
  | a :: _, xs :: _, .cons r _, 0, v, e => ⟨a, xs, (Option.some.inj e).symm, rfl, rfl, r⟩
  | _ :: _, _ :: _, .cons _ t, i + 1, v, e => RowsIn.get t (i := i) e
theorem RowsIn.append {H : Hp} : ∀ {as bs : List Addr} {rs ss : List (List V)}, RowsIn H as rs → RowsIn H bs ss → RowsIn H (as ++ bs) (rs ++ ss)
  | _, _, _, _, .nil, s => s
  | _, _, _, _, .cons r t, s => .cons r (RowsIn.append t s)
/-- a list or a tuple -/
def SeqA (K : PySem.W.Frag) (H : Hp) (r : Addr) (vs : List V) : Prop := SqL K H r vs ∨ SqT K H r vs
theorem SeqA.same {K : PySem.W.Frag} {H H' : Hp} {r : Addr} {vs : List V} (s : Same H H') (h : SeqA K H r vs) : SeqA K H' r vs := h.imp (fun q => s.seq q) (fun q => Same.sqT s q)
/-- a piece, as plain data -/
structure PM where
  name : Str
  part : Str
  rows : List (List V)
  al : Int
  scope : Str
  keep : Bool
def RowOf (ts : List Str) (part : Str) (xs : List V) : Prop := if part = "code" then CRow ts xs else DRow ts xs
theorem RowOf.rwy {ts : List Str} {part : Str} {xs : List V} (h : RowOf ts part xs) : Rwy ts xs := by
  unfold RowOf at h
  split at h
  · exact .inl h
  · exact .inr h
structure PM.Ok (ts : List Str) (M : PM) : Prop where
  nm : Nm M.name
  pt : M.part = "code" ∨ M.part = "data"
  rw : ∀ xs ∈ M.rows, RowOf ts M.part xs
  ln : M.rows.length ≤ 16
  cl : M.part = "code" → ∃ rs xs, M.rows = rs ++ [xs] ∧ inV (hd0 xs) closL = true
  al : M.al ∈ ([1, 2, 4, 8, 16] : List Int)
  sc : M.scope ∈ (["local", "export", "open", "weak"] : List Str)
  op : M.part = "data" → M.scope ≠ "open"
def rowO (part : Str) (o : Option (List V)) : Bool := if part = "code" then codeO o else dataO o

open Lend LamX NdefX SupX
section
variable {P : Program} {w : World} {K : PySem.W.Frag} {mg : Str → Option Value} {base : Heap} {Z : Fs}
def alignsL : List V := [.int 1, .int 2, .int 4, .int 8, .int 16]
def alV (v : V) : Bool := numV v 1 16 && inV v alignsL
def sp_is_alignment (K : PySem.W.Frag) : Sp := fun vs H Q _ => ∃ (v : V) (b : Addr) (n : Nat), vs = [v] ∧ Okv K H b n v ∧ ∀ H' : Hp, Same H H' → Q (.bl (alV v)) H'
theorem flat_num {v : V} {lo hi : Int} (h : numV v lo hi = true) : flatV v = true := by
  cases v with
  | int i => rfl
  | _ => cases h
theorem ok_is_alignment (T : Txt K w mg Z) : FnOk P w K mg base CX0 2 Z.a_is_alignment Z.d_is_alignment ["value"] (sp_is_alignment K) := by
  have G_is_number : FnOk P w K mg base CX0 1 Z.a_is_number Z.d_is_number ["value", "least", "most"] (sp_is_numberO K) := ok_is_numberO T
  refine T.F_is_alignment.ok sc_is_alignment (fun vs H Q E h => ?_) (fun cdv A outer s H vs Q E hr h => ?_)
  · obtain ⟨v, b, n, rfl, _⟩ := h
    rfl
  · obtain ⟨v, b, n, rfl, hv, k⟩ := h
    refine ⟨_, (pss_one (ps_ret (pe_and (pe_call G_is_number (hr.mono (by omega)) (by rfl) T.m_is_number T.F_is_number.kp T.b_is_number .nil pass0 (pa_cons (pv 0) (pa_cons pe_int (pa_cons pe_int pa_nil)))) (pe_one (pe_cmpR (op_in_seq : OpR _ _ (rIn K false)) (pv 0) (pe_glob (v := .ref Z.c_ALIGNMENTS) (by rfl) T.g_ALIGNMENTS rfl) (by rfl)))))), ?_⟩
    refine ⟨v, rfl, v, 1, 16, b, n, rfl, hv, fun H1 s1 => ⟨_, rfl, ?_⟩⟩
    have q := k H1 s1
    unfold alV at q
    cases e : numV v 1 16 with
    | true =>
      rw [e] at q
      exact iteT ⟨v, rfl, _, alignsL, rfl, .inr (T.v_ALIGNMENTS H1), flat_num e, rfl, q⟩
    | false =>
      rw [e] at q
      exact iteF q
def sp_is_row_of (K : PySem.W.Frag) : Sp := fun vs H Q _ => ∃ (part : Str) (v : V) (b : Addr) (n : Nat) (o : Option (List V)), vs = [.str part, v] ∧ Tp K H b n v o ∧ ∀ H' : Hp, Same H H' → Q (.bl (rowO part o)) H'
theorem ok_is_row_of (T : Txt K w mg Z) : FnOk P w K mg base CX0 5 Z.a_is_row_of Z.d_is_row_of ["part", "value"] (sp_is_row_of K) := by
  have G_is_code_row : FnOk P w K mg base CX0 4 Z.a_is_code_row Z.d_is_code_row ["value"] (sp_is_code_row K) := ok_is_code_row T
  have G_is_data_row : FnOk P w K mg base CX0 4 Z.a_is_data_row Z.d_is_data_row ["value"] (sp_is_data_row K) := ok_is_data_row T
  refine T.F_is_row_of.ok sc_is_row_of (fun vs H Q E h => ?_) (fun cdv A outer s H vs Q E hr h => ?_)
  · obtain ⟨part, v, b, n, o, rfl, _⟩ := h
    rfl
  · obtain ⟨part, v, b, n, o, rfl, tp, k⟩ := h
    refine ⟨_, (pss_cons (ps_if (pt_cmpR op_eq (pv 0) pe_str (nomark _)) (pss_one (ps_ret (pe_call G_is_code_row (hr.mono (by omega)) (by rfl) T.m_is_code_row T.F_is_code_row.kp T.b_is_code_row .nil pass0 (pa_cons (pv 1) pa_nil)))) pss_nil)
      (pss_one (ps_ret (pe_call G_is_data_row (hr.mono (by omega)) (by rfl) T.m_is_data_row T.F_is_data_row.kp T.b_is_data_row .nil pass0 (pa_cons (pv 1) pa_nil))))), ?_⟩
    refine ⟨.str part, rfl, rfl, _, rfl, ?_⟩
    by_cases c : part = "code"
    · refine iteY (by rw [c]) ?_
      refine ⟨v, rfl, v, b, n, o, rfl, tp, fun H' s => ?_⟩
      have e : rowO part o = codeO o := if_pos c
      rw [← e]
      exact k _ s
    · refine iteN (fun z => c (V.str.inj z)) ?_
      refine ⟨v, rfl, v, b, n, o, rfl, tp, fun H' s => ?_⟩
      have e : rowO part o = dataO o := if_neg c
      rw [← e]
      exact k _ s
end

open Lend LamX NdefX SupX
/-! ### the kinds of errors of a piece -/
def kNm (D : Addr) : EKind := ⟨D, "InvalidName", ["value"]⟩
def kPt (D : Addr) : EKind := ⟨D, "InvalidPart", ["value"]⟩
def kAl (D : Addr) : EKind := ⟨D, "InvalidAlignment", ["value"]⟩
def kSc (D : Addr) : EKind := ⟨D, "InvalidScope", ["value"]⟩
def kRw (D : Addr) : EKind := ⟨D, "InvalidRow", ["at"]⟩
def kMn (D : Addr) : EKind := ⟨D, "TooMany", ["most"]⟩
def kNc (D : Addr) : EKind := ⟨D, "NotClosing", []⟩
structure Ks where
  (n p a s r m c : Addr)
def Ks.l (k : Ks) : List EKind := [kNm k.n, kPt k.p, kAl k.a, kSc k.s, kRw k.r, kMn k.m, kNc k.c]
structure Lg (P : Program) (K : PySem.W.Frag) (mg : Str → Option Value) (k : Ks) : Prop where
  PS : ProgS P FL
  n : ∃ f fd, EC K mg "InvalidName" "InvalidName.__init__" s_E_InvalidName (kNm k.n) f fd
  p : ∃ f fd, EC K mg "InvalidPart" "InvalidPart.__init__" s_E_InvalidPart (kPt k.p) f fd
  a : ∃ f fd, EC K mg "InvalidAlignment" "InvalidAlignment.__init__" s_E_InvalidAlignment (kAl k.a) f fd
  s : ∃ f fd, EC K mg "InvalidScope" "InvalidScope.__init__" s_E_InvalidScope (kSc k.s) f fd
  r : ∃ f fd, EC K mg "InvalidRow" "InvalidRow.__init__" s_E_InvalidRow (kRw k.r) f fd
  m : ∃ f fd, EC K mg "TooMany" "TooMany.__init__" s_E_TooMany (kMn k.m) f fd
  c : ∃ f fd, EC K mg "NotClosing" "NotClosing.__init__" s_E_NotClosing (kNc k.c) f fd
/-! ### rows as handed in -/
def flatK (x : V) : Prop := flatV x = true ∧ ∀ z, x = .str z → StrK z
inductive RowV (H : Hp) (N : Addr → Prop) : V → Option (List V) → Prop
  | flat {v : V} : flatK v → RowV H N v none
  | lst {a : Addr} {xs : List V} : H a = some (.lst xs) → N a → RowV H N (.ref a) none
  | tup {a : Addr} {xs : List V} : H a = some (.tup xs) → xs.length ≤ 100000 → (∀ x ∈ xs, flatK x) → RowV H N (.ref a) (some xs)
theorem RowV.tp {K : PySem.W.Frag} {H : Hp} {N : Addr → Prop} {v : V} {o : Option (List V)} (b : Addr) (h : RowV H N v o) : Tp K H b 0 v o := by
  cases h with
  | flat h =>
    cases v with
    | non => exact ⟨_, .base .non, kit_ty (by decide +kernel)⟩
    | bl k => exact ⟨_, .base (.bl k), kit_ty (show kitB "bool" "tuple" = some false by decide +kernel)⟩
    | int i => exact ⟨_, .base (.int i), kit_ty (show kitB "int" "tuple" = some false by decide +kernel)⟩
    | str z => exact ⟨_, .base (.str z), kit_ty (show kitB "str" "tuple" = some false by decide +kernel)⟩
    | _ => cases h.1
  | lst h _ => exact ⟨_, tyx_l (SqL.of h), kit_ty (by decide +kernel)⟩
  | tup h l f => exact ⟨_, rfl, SqT.of h, l, f⟩
theorem RowV.same {H H' : Hp} {N : Addr → Prop} {v : V} {o : Option (List V)} (s : Same H H') (h : RowV H N v o) : RowV H' N v o := by
  cases h with
  | flat h => exact .flat h
  | lst h n => exact .lst (s _ _ h) n
  | tup h l f => exact .tup (s _ _ h) l f
theorem RowV.but {H H' : Hp} {N : Addr → Prop} {q : Addr} {ys : List V} {v : V} {o : Option (List V)} (s : Go.But q H H') (e : H q = some (.lst ys)) (n : ∀ a, N a → a ≠ q) (h : RowV H N v o) : RowV H' N v o := by
  cases h with
  | flat h => exact .flat h
  | lst h k => exact .lst (s _ _ (n _ k) h) k
  | tup h l f => exact .tup (s _ _ (fun z => by rw [z, e] at h; cases h) h) l f
inductive RowsV (H : Hp) (N : Addr → Prop) : V → Option (List (Option (List V))) → Prop
  | no {v : V} : flatK v → RowsV H N v none
  | lst {a : Addr} {xs : List V} {os : List (Option (List V))} : H a = some (.lst xs) → N a → xs.length ≤ 100 → Paired (RowV H N) xs os → RowsV H N (.ref a) (some os)
theorem RowsV.same {H H' : Hp} {N : Addr → Prop} {v : V} {o : Option (List (Option (List V)))} (s : Same H H') (h : RowsV H N v o) : RowsV H' N v o := by
  cases h with
  | no h => exact .no h
  | lst h n l p => exact .lst (s _ _ h) n l (Paired.mapP p fun _ _ e => e.same s)
theorem RowsV.but {H H' : Hp} {N : Addr → Prop} {q : Addr} {ys : List V} {v : V} {o : Option (List (Option (List V)))} (s : Go.But q H H') (e : H q = some (.lst ys)) (n : ∀ a, N a → a ≠ q) (h : RowsV H N v o) : RowsV H' N v o := by
  cases h with
  | no h => exact .no h
  | lst h k l p => exact .lst (s _ _ (n _ k) h) k l (Paired.mapP p fun _ _ u => u.but s e n)
theorem Paired.get2 {α β : Type} {R : α → β → Prop} : ∀ {xs : List α} {os : List β}, Paired R xs os → ∀ {i : Nat} {x : α}, xs[i]? = some x → ∃ o, os[i]? = some o ∧ R x o
  | _, _, .nil, _, _, e => by cases e
  | _, _, .cons r _, 0, _, e => by cases e; exact ⟨_, rfl, r⟩
  | _, _, .cons _ t, i + 1, _, e => Paired.get2 t (i := i) e
/-- what is wrong with the rows of a part -/
def rowsE (k : Ks) (p : Str) : Option (List (Option (List V))) → Option (EKind × List V)
  | none => some (kRw k.r, [.int (-1)])
  | some os => if 16 < os.length then some (kMn k.m, [.int 16]) else match os.findIdx? (fun o => !rowO p o) with
    | some i => some (kRw k.r, [.int ((i : Nat) : Int)])
    | none => none
theorem rowsE_some {k : Ks} {p : Str} {os : List (Option (List V))} : rowsE k p (some os) = if 16 < os.length then some (kMn k.m, [.int 16]) else match os.findIdx? (fun o => !rowO p o) with
    | some i => some (kRw k.r, [.int ((i : Nat) : Int)])
    | none => none := rfl
theorem shows_int {K : PySem.W.Frag} {H : Hp} {i : Int} (h0 : -1 ≤ i) (h1 : i < 100) : ∃ c, Shows K H (.int i) c ∧ c ≤ 5000 := by
  have q : ∀ n : Fin 101, (toString ((n.val : Int) - 1) : Str).length ≤ 5000 ∧ (((n.val : Int) - 1).natAbs.log2 < 1920) := by decide +kernel
  obtain ⟨n, rfl⟩ : ∃ n : Nat, i = (n : Int) - 1 := ⟨(i + 1).toNat, by omega⟩
  have z := q ⟨n, by omega⟩
  exact ⟨5000, .inl ⟨_, .int _ z.2, z.1⟩, Nat.le_refl _⟩
theorem findIdx_some {α : Type} {p : α → Bool} : ∀ {l : List α} {i : Nat} {x : α}, l[i]? = some x → p x = true → (∀ j y, j < i → l[j]? = some y → p y = false) → l.findIdx? p = some i
  | a :: l, 0, x, e, hx, _ => by cases e; rw [List.findIdx?_cons, hx]; rfl
  | a :: l, i + 1, x, e, hx, h => by
    rw [List.findIdx?_cons, h 0 a (Nat.succ_pos _) rfl, findIdx_some (l := l) (i := i) e hx fun j y hj hy => h (j + 1) y (Nat.succ_lt_succ hj) hy]
    rfl
theorem findIdx_none {α : Type} {p : α → Bool} : ∀ {l : List α}, (∀ j y, j < l.length → l[j]? = some y → p y = false) → l.findIdx? p = none
  | [], _ => rfl
  | a :: l, h => by
    rw [List.findIdx?_cons, h 0 a (Nat.succ_pos _) rfl, findIdx_none (l := l) fun j y hj hy => h (j + 1) y (Nat.succ_lt_succ hj) hy]
    rfl
/-- enumerate of a list -/
def YE (xs : List V) : Nat → Hp → V → Hp → Prop := fun i H v H1 => ∃ T x, v = .ref T ∧ H T = none ∧ Same H H1 ∧ H1 T = some (.tup [.int (i : Nat), x]) ∧ xs[i]? = some x
theorem walkE {K : PySem.W.Frag} {a : Addr} {xs : List V} : Walk (Ite K a) xs.length (fun H => SqL K H a xs) (YE xs) :=
  walk_enum.mono (fun _ h => h) fun i H x H1 _ _ ⟨T, u, t, e1, e2, e3, e4, e5⟩ => by
    cases e4
    exact ⟨T, t, e1, e2, e3 ▸ Go.Sn e2, e3 ▸ upd_same, e5⟩
theorem EndsSo.er {o : Option (EKind × List V)} {e : EKind} {xs : List V} {G : Hp} {Q : VK} {E : XK} (en : EndsSo o G Q E) (ho : o = some (e, xs)) {G1 : Hp} (s : Same G G1) {d : Addr} {G' : Hp} (h : ErrAt G1 G' d e xs) : E (.ref e.D) (some d) G' := by
  subst ho
  exact en d G' ⟨Go.freeS s h.new, s.trans h.same, h.at_⟩
theorem EndsSo.ok {o : Option (EKind × List V)} {G : Hp} {Q : VK} {E : XK} (en : EndsSo o G Q E) (ho : o = none) {v : V} {H' : Hp} (s : Same G H') : Q v H' := by
  subst ho
  exact en v H' s
theorem mk_errT {K : PySem.W.Frag} {D : Addr} {attr code : Str} {σ : L2.St} {G : Hp} {x : V} {E : XK} {te : TE} (ht : ∀ Q : VK, Q x G → te σ G Q) (hs : ∃ c, Shows K G x c ∧ c ≤ 5000) (hE : ∀ d G', ErrAt G G' d ⟨D, code, [attr]⟩ [x] → E (.ref D) (some d) G') :
    tMkO D (sp_err1 K D attr code) [] (tCons te tNil) σ G E := by
  obtain ⟨c, hs, hc⟩ := hs
  exact ht _ (mk_errC (σ := σ) hs hc hE)
section
variable {P : Program} {w : World} {K : PySem.W.Frag} {mg : Str → Option Value} {base : Heap} {Z : Fs}
def sp_check_rows (k : Ks) : Sp := fun vs H Q E => ∃ (p : Str) (v : V) (N : Addr → Prop) (rr : Option (List (Option (List V)))), vs = [.str p, v] ∧ RowsV H N v rr ∧ EndsSo (rowsE k p rr) H Q E
theorem i_row_of {H : Hp} {Q : VK} {E : XK} {N : Addr → Prop} {p : Str} {v : V} {o : Option (List V)} (h : RowV H N v o) (q : ∀ H' : Hp, Same H H' → Q (.bl (rowO p o)) H') : sp_is_row_of K [.str p, v] H Q E := ⟨p, v, 0, 0, o, rfl, h.tp 0, q⟩
theorem ok_check_rows {k : Ks} (T : Txt K w mg Z) (L : Lg P K mg k) : FnOk P w K mg base (L2N.CX P w) 6 Z.a_check_rows Z.d_check_rows ["part", "rows"] (sp_check_rows k) := by
  obtain ⟨f4, fd4, EC_InvalidRow⟩ := L.r
  obtain ⟨f5, fd5, EC_TooMany⟩ := L.m
  have G_is_row_of := ok_is_row_of (P := P) (base := base) T
  have G_E_InvalidRow := ok_E_InvalidRow (P := P) (w := w) (base := base) L.PS EC_InvalidRow
  have G_E_TooMany := ok_E_TooMany (P := P) (w := w) (base := base) L.PS EC_TooMany
  refine LendN.okN T.F_check_rows sc_check_rows (fun vs H Q E h => ?_) (fun cdv A outer s H vs Q E hr h => ?_)
  · obtain ⟨p, v, N, rr, rfl, _⟩ := h
    rfl
  · obtain ⟨p, v, N, rr, rfl, hv, en⟩ := h
    have tk : L2N.Takes (cxOf (L2N.CX P w) P w K mg base N_check_rows "_check_rows" (defScope s_check_rows) Z.a_check_rows cdv A outer s H E) (fun cls d _ H => E cls d H) := L2N.takes_of (E₁ := fun e' s'' => L2N.CX P w outer H s E e' s'') rfl rfl rfl rfl
    refine ⟨_, (pss_cons (ps_if (pt_not (pt_val (pe_callB (call_isiT : CallR _ _ (rIsiT K)) (by rfl) T.n_isinstance boot_isinstance (pa_cons (pv 1) (pa_cons (pe_tup (pa_cons (pe_bltn (v := .ty "list") (by rfl) T.n_list boot_list rfl) (pa_cons (pe_bltn (v := .ty "tuple") (by rfl) T.n_tuple boot_tuple rfl) pa_nil))) pa_nil))))) (pss_one (L2N.ps_raise rfl tk (LendN.pmkN_own EC_InvalidRow.V.oex EC_InvalidRow.V.ini EC_InvalidRow.V.tI G_E_InvalidRow (hr.mono (by omega)) EC_InvalidRow.b pass0 (by rfl) EC_InvalidRow.V.mgx (pa_cons (pe_un un_neg pe_int) pa_nil)))) pss_nil)
      (pss_cons (ps_if (pt_cmpR op_gt (pe_callB (Go.c_len : CallR _ _ (Go.RLen K)) (by rfl) T.n_len boot_len (pa_cons (pv 1) pa_nil)) (pe_glob (v := .int 16) (by rfl) (Classical.choose_spec T.g_MOST_ROWS) ⟨_, rfl⟩) (nomark _)) (pss_one (L2N.ps_raise rfl tk (LendN.pmkN_own EC_TooMany.V.oex EC_TooMany.V.ini EC_TooMany.V.tI G_E_TooMany (hr.mono (by omega)) EC_TooMany.b pass0 (by rfl) EC_TooMany.V.mgx (pa_cons (pe_glob (v := .int 16) (by rfl) (Classical.choose_spec T.g_MOST_ROWS) ⟨_, rfl⟩) pa_nil)))) pss_nil)
      (pss_one (ps_for (passes_of rfl) rfl (pi_enumA (by rfl) T.n_enumerate (pa_cons (pv 1) pa_nil)) (pg_tup (by rfl) (pgs_cons (pg_name (i := 2) sc_check_rows.nd rfl (Or.inl rfl)) (pgs_cons (pg_name (i := 3) sc_check_rows.nd rfl (Or.inl rfl)) pgs_nil))) (pss_one (ps_if (pt_not (pt_val (pe_call G_is_row_of (hr.mono (by omega)) (by rfl) T.m_is_row_of T.F_is_row_of.kp T.b_is_row_of .nil pass0 (pa_cons (pv 0) (pa_cons (pv 3) pa_nil))))) (pss_one (L2N.ps_raise rfl tk (LendN.pmkN_own EC_InvalidRow.V.oex EC_InvalidRow.V.ini EC_InvalidRow.V.tI G_E_InvalidRow (hr.mono (by omega)) EC_InvalidRow.b pass0 (by rfl) EC_InvalidRow.V.mgx (pa_cons (pv 2) pa_nil)))) pss_nil)))))), ?_⟩
    rw [show L2.start N_check_rows [V.str p, v] = [some (V.str p), some (v), none, none] from rfl]
    try dsimp only [cxOf, Cx.nox]
    cases hv with
    | no hf =>
      cases v with
      | non =>
        tm_at "go"
        exact mk_errT (fun Q q => ⟨1, rfl, q⟩) (shows_int (by decide) (by decide)) fun d G' e => en.er (e := kRw k.r) rfl (by tm_at "same") e
      | bl b =>
        tm_at "go"
        exact mk_errT (fun Q q => ⟨1, rfl, q⟩) (shows_int (by decide) (by decide)) fun d G' e => en.er (e := kRw k.r) rfl (by tm_at "same") e
      | int i =>
        tm_at "go"
        exact mk_errT (fun Q q => ⟨1, rfl, q⟩) (shows_int (by decide) (by decide)) fun d G' e => en.er (e := kRw k.r) rfl (by tm_at "same") e
      | str z =>
        tm_at "go"
        exact mk_errT (fun Q q => ⟨1, rfl, q⟩) (shows_int (by decide) (by decide)) fun d G' e => en.er (e := kRw k.r) rfl (by tm_at "same") e
      | _ => cases hf.1
    | @lst a xs os e1 nA hl hp =>
      have lo : xs.length = os.length := Paired.length hp
      tm_at "go"
      · rename_i p1 G1 n1 s1 t1 big
        refine mk_errC (c := 5000) (.inl ⟨_, .int _ (by decide +kernel), by decide +kernel⟩) (Nat.le_refl _) fun d G' e => en.er (e := kMn k.m) ?_ (by tm_at "same") e
        rw [rowsE_some]
        exact if_pos (by omega)
      · rename_i p1 G1 n1 s1 t1 big
        refine ⟨.ref a, rfl, a, xs, rfl, .inl ⟨by tm_at "hpL", ?_⟩⟩
        refine Go.for_w (walkE (K := K) (xs := xs)) (fun i σ H' => ∃ y2 y3, σ = [some (.str p), some (.ref a), y2, y3] ∧ Same H H' ∧ ∀ j o, j < i → os[j]? = some o → rowO p o = true) ⟨_, _, rfl, by tm_at "same", fun j o hj _ => absurd hj (Nat.not_lt_zero _)⟩ (fun i σ H' _ ⟨_, _, _, s5, _⟩ => by tm_at "hpL") ?_ ?_
        · rintro i x σ G G' hi ⟨y2, y3, rfl, sG, hj⟩ ⟨Tq, y, rfl, hT, sT, eT, hy⟩
          obtain ⟨o, ho, ro⟩ := Paired.get2 hp hy
          tm_at "go"
          refine i_row_of (ro.same (by tm_at "same")) fun G2 s2 => ?_
          tm_at "go"
          · rename_i q
            refine ⟨_, _, rfl, by tm_at "same", fun j o' hj' ho' => ?_⟩
            rcases Nat.lt_succ_iff_lt_or_eq.mp hj' with h | rfl
            · exact hj j o' h ho'
            · rw [ho] at ho'
              cases ho'
              exact q
          · rename_i q
            refine mk_errT (fun Q q => ⟨_, rfl, q⟩) (shows_int (by omega) (by omega)) fun d G3 e => en.er (e := kRw k.r) ?_ (by tm_at "same") e
            rw [rowsE_some, if_neg (by omega)]
            have z : os.findIdx? (fun o => !rowO p o) = some i := findIdx_some ho (by rw [q]; rfl) fun j y hj' hy' => by rw [hj j y hj' hy']; rfl
            rw [z]
        · rintro σ G ⟨y2, y3, rfl, sG, hj⟩
          refine en.ok ?_ sG
          rw [rowsE_some, if_neg (by omega)]
          have z : os.findIdx? (fun o => !rowO p o) = none := findIdx_none fun j y hj' hy' => by rw [hj j y (by omega) hy']; rfl
          rw [z]
end

open Lend LamX NdefX SupX
def closS : List Str := ["jump", "halt", "back"]
def closO (o : Option (List V)) : Bool := closS.contains (hdS o)
theorem codeO_hd {o : Option (List V)} (h : codeO o = true) : ∃ u r, o = some (.str u :: r) := by
  unfold codeO at h
  cases e : findT tb_CODE_ROWS (hdS o) with
  | none => rw [e] at h; cases h
  | some ks =>
    have q := (code_kinds e).2.2.2
    match o, q with
    | none, q => exact absurd rfl q
    | some [], q => exact absurd rfl q
    | some (x :: r), q =>
      cases x with
      | str u => exact ⟨u, r, rfl⟩
      | _ => exact absurd rfl q
theorem Paired.last {α β : Type} {R : α → β → Prop} {xs : List α} {os : List β} (h : Paired R xs os) (h0 : 0 < os.length) : ∃ x o, atI xs (-1) = some x ∧ os.getLast? = some o ∧ R x o := by
  have l := Paired.length h
  rcases List.eq_nil_or_concat xs with rfl | ⟨ys, y, rfl⟩
  · simp at l
    omega
  · rw [List.concat_eq_append] at h l ⊢
    obtain ⟨o, ho, r⟩ := Paired.get2 h (i := ys.length) (x := y) (by simp)
    refine ⟨y, o, atI_last _ _, ?_, r⟩
    rw [List.getLast?_eq_getElem?, ← l]
    simpa using ho
section
variable {P : Program} {w : World} {K : PySem.W.Frag} {mg : Str → Option Value} {base : Heap} {Z : Fs}
def sp_is_closingA : Sp := fun vs H Q _ => ∃ (v : V) (N : Addr → Prop) (o : Option (List V)), vs = [v] ∧ RowV H N v o ∧ codeO o = true ∧ ∀ H' : Hp, Same H H' → Q (.bl (closO o)) H'
theorem i_code_row {H : Hp} {Q : VK} {E : XK} {N : Addr → Prop} {v : V} {o : Option (List V)} (h : RowV H N v o) (q : ∀ H' : Hp, Same H H' → Q (.bl (codeO o)) H') : sp_is_code_row K [v] H Q E := ⟨v, 0, 0, o, rfl, h.tp 0, q⟩
theorem i_data_row {H : Hp} {Q : VK} {E : XK} {N : Addr → Prop} {v : V} {o : Option (List V)} (h : RowV H N v o) (q : ∀ H' : Hp, Same H H' → Q (.bl (dataO o)) H') : sp_is_data_row K [v] H Q E := ⟨v, 0, 0, o, rfl, h.tp 0, q⟩
theorem ok_is_closingA (T : Txt K w mg Z) : FnOk P w K mg base CX0 5 Z.a_is_closing Z.d_is_closing ["row"] sp_is_closingA := by
  have G_is_code_row : FnOk P w K mg base CX0 4 Z.a_is_code_row Z.d_is_code_row ["value"] (sp_is_code_row K) := ok_is_code_row T
  have tC : ∀ G : Hp, SqT K G Z.c_CLOSING (closS.map V.str) := T.v_CLOSING
  refine T.F_is_closing.ok sc_is_closing (fun vs H Q E h => ?_) (fun cdv A outer s H vs Q E hr h => ?_)
  · obtain ⟨v, N, o, rfl, _⟩ := h
    rfl
  · obtain ⟨v, N, o, rfl, hv, hc, k⟩ := h
    obtain ⟨u, r, rfl⟩ := codeO_hd hc
    have hv0 := hv
    cases hv with
    | @tup a _ ea la fa =>
      refine ⟨_, (pss_one (ps_ret (pe_and (pe_call G_is_code_row (hr.mono (by omega)) (by rfl) T.m_is_code_row T.F_is_code_row.kp T.b_is_code_row .nil pass0 (pa_cons (pv 0) pa_nil)) (pe_one (pe_cmpR (op_in_seq : OpR _ _ (rIn K false)) (pe_ix (ix_tup : IxR _ (rIxT K)) (pv 0) pe_int (fun _ _ => rfl)) (pe_glob (v := .ref Z.c_CLOSING) (by rfl) T.g_CLOSING rfl) (by rfl)))))), ?_⟩
      rw [show L2.start N_is_closing [V.ref a] = [some (V.ref a)] from rfl]
      try dsimp only [cxOf, Cx.nox]
      tm_at "go"
      refine i_code_row hv0 fun G s1 => ?_
      tm_at "go"
      refine inT (tC _) rfl ?_
      tm_at "go"
      exact k _ (by tm_at "same")
def sp_ends_closingA : Sp := fun vs H Q _ => ∃ (p : Str) (a : Addr) (N : Addr → Prop) (xs : List V) (os : List (Option (List V))), vs = [.str p, .ref a] ∧ H a = some (.lst xs) ∧ Paired (RowV H N) xs os ∧ xs.length ≤ 1000 ∧ (p ≠ "data" → ∀ o ∈ os, codeO o = true) ∧ ∀ H' : Hp, Same H H' → Q (.bl (decide (p = "data") || (decide (0 < os.length) && closO (os.getLast?.getD none)))) H'
theorem ok_ends_closingA (T : Txt K w mg Z) : FnOk P w K mg base CX0 6 Z.a_ends_closing Z.d_ends_closing ["part", "rows"] sp_ends_closingA := by
  have G_is_closing : FnOk P w K mg base CX0 5 Z.a_is_closing Z.d_is_closing ["row"] sp_is_closingA := ok_is_closingA T
  refine T.F_ends_closing.ok sc_ends_closing (fun vs H Q E h => ?_) (fun cdv A outer s H vs Q E hr h => ?_)
  · obtain ⟨p, a, N, xs, os, rfl, _⟩ := h
    rfl
  · obtain ⟨p, a, N, xs, os, rfl, ea, hp, hl, hc, k⟩ := h
    have lo : xs.length = os.length := Paired.length hp
    refine ⟨_, (pss_one (ps_ret (pe_or (pe_cmpR op_eq (pv 0) pe_str (nomark _)) (pe_one (pe_and (pe_cmpR op_gt (pe_callB (Go.c_len : CallR _ _ (Go.RLen K)) (by rfl) T.n_len boot_len (pa_cons (pv 1) pa_nil)) pe_int (nomark _)) (pe_one (pe_call G_is_closing (hr.mono (by omega)) (by rfl) T.m_is_closing T.F_is_closing.kp T.b_is_closing .nil pass0 (pa_cons (pe_ix ix_seq (pv 1) (pe_un un_neg pe_int) (fun _ _ => rfl)) pa_nil)))))))), ?_⟩
    rw [show L2.start N_ends_closing [V.str p, V.ref a] = [some (V.str p), some (V.ref a)] from rfl]
    try dsimp only [cxOf, Cx.nox]
    tm_at "go"
    · rename_i c
      have q := k H (Same.refl _)
      rw [decide_eq_true c] at q
      exact q
    · rename_i c h0
      obtain ⟨x, o, hx, ho, ro⟩ := Paired.last hp (by omega)
      have q := fun H' (s : Same H H') => k H' s
      rw [decide_eq_false c, decide_eq_true (show 0 < os.length by omega), ho] at q
      refine .inl ⟨a, xs, -1, x, rfl, rfl, SqL.of ea, hx, ?_⟩
      exact ⟨x, N, o, rfl, ro, hc c o (List.mem_of_getLast? ho), fun H' s => q H' s⟩
    · rename_i c h0
      have q := k H (Same.refl _)
      rw [decide_eq_false c, decide_eq_false (show ¬ 0 < os.length by omega)] at q
      exact q
end

open Lend LamX NdefX SupX
/-! ### what a piece is given -/
structure GV (K : PySem.W.Frag) (H : Hp) (b : Addr) (v : V) (d : PyData) (good : Bool) : Prop where
  dt : Dt K H b v d
  deep : dep d ≤ 1
  shows : good = false → ∃ c, Shows K H v c ∧ c ≤ 5000
theorem GV.but {K : PySem.W.Frag} {H H' : Hp} {b : Addr} {v : V} {d : PyData} {g : Bool} (s : Go.But b H H') (h : GV K H b v d g) : GV K H' b v d g := ⟨h.dt.but s, h.deep, fun z => let ⟨c, h1, h2⟩ := h.shows z; ⟨c, Shows.but s h.dt h1, h2⟩⟩
theorem GV.same {K : PySem.W.Frag} {H H' : Hp} {b : Addr} {v : V} {d : PyData} {g : Bool} (s : Same H H') (h : GV K H b v d g) : GV K H' b v d g := h.but (Go.sb s)
theorem GV.grow {K : PySem.W.Frag} {H H' : Hp} {b : Addr} {v : V} {d : PyData} {g : Bool} (s : Go.Grow H H') (h : GV K H b v d g) : GV K H' b v d g := ⟨h.dt.grow s, h.deep, fun z => let ⟨c, h1, h2⟩ := h.shows z; ⟨c, Shows.grow s h1, h2⟩⟩
def strD : PyData → Str
  | .str z => z
  | _ => ""
def closeE (p : Str) : Option (List (Option (List V))) → Bool
  | none => true
  | some os => decide (p = "data") || (decide (0 < os.length) && closO (os.getLast?.getD none))
/-- the first error of a piece -/
def pieceE (k : Ks) (n p a s : V) (dp ds : PyData) (rr : Option (List (Option (List V)))) : Option (EKind × List V) :=
  if nmV n = false then some (kNm k.n, [n])
  else if partD dp = false then some (kPt k.p, [p])
  else match rowsE k (strD dp) rr with
    | some e => some e
    | none => if closeE (strD dp) rr = false then some (kNc k.c, [])
      else if alV a = false then some (kAl k.a, [a])
      else if scopeD (strD dp) ds = false then some (kSc k.s, [s])
      else none
theorem pieceE1 {k : Ks} {n p a s : V} {dp ds : PyData} {rr : Option (List (Option (List V)))} (h : nmV n = false) : pieceE k n p a s dp ds rr = some (kNm k.n, [n]) := if_pos h
theorem pieceE2 {k : Ks} {n p a s : V} {dp ds : PyData} {rr : Option (List (Option (List V)))} (h : nmV n = true) (h2 : partD dp = false) : pieceE k n p a s dp ds rr = some (kPt k.p, [p]) := by simp [pieceE, h, h2]
theorem pieceE3 {k : Ks} {n p a s : V} {dp ds : PyData} {rr : Option (List (Option (List V)))} {e : EKind × List V} (h : nmV n = true) (h2 : partD dp = true) (h3 : rowsE k (strD dp) rr = some e) : pieceE k n p a s dp ds rr = some e := by simp [pieceE, h, h2, h3]
theorem pieceE4 {k : Ks} {n p a s : V} {dp ds : PyData} {rr : Option (List (Option (List V)))} (h : nmV n = true) (h2 : partD dp = true) (h3 : rowsE k (strD dp) rr = none) (h4 : closeE (strD dp) rr = false) : pieceE k n p a s dp ds rr = some (kNc k.c, []) := by simp [pieceE, h, h2, h3, h4]
theorem pieceE5 {k : Ks} {n p a s : V} {dp ds : PyData} {rr : Option (List (Option (List V)))} (h : nmV n = true) (h2 : partD dp = true) (h3 : rowsE k (strD dp) rr = none) (h4 : closeE (strD dp) rr = true) (h5 : alV a = false) : pieceE k n p a s dp ds rr = some (kAl k.a, [a]) := by simp [pieceE, h, h2, h3, h4, h5]
theorem pieceE6 {k : Ks} {n p a s : V} {dp ds : PyData} {rr : Option (List (Option (List V)))} (h : nmV n = true) (h2 : partD dp = true) (h3 : rowsE k (strD dp) rr = none) (h4 : closeE (strD dp) rr = true) (h5 : alV a = true) (h6 : scopeD (strD dp) ds = false) : pieceE k n p a s dp ds rr = some (kSc k.s, [s]) := by simp [pieceE, h, h2, h3, h4, h5, h6]
theorem pieceE7 {k : Ks} {n p a s : V} {dp ds : PyData} {rr : Option (List (Option (List V)))} (h : nmV n = true) (h2 : partD dp = true) (h3 : rowsE k (strD dp) rr = none) (h4 : closeE (strD dp) rr = true) (h5 : alV a = true) (h6 : scopeD (strD dp) ds = true) : pieceE k n p a s dp ds rr = none := by simp [pieceE, h, h2, h3, h4, h5, h6]
theorem rowsE_ok {k : Ks} {p : Str} {rr : Option (List (Option (List V)))} (h : rowsE k p rr = none) : ∃ os, rr = some os ∧ os.length ≤ 16 ∧ ∀ o ∈ os, rowO p o = true := by
  match rr, h with
  | some os, h =>
    rw [rowsE_some] at h
    split at h
    · cases h
    · cases e : os.findIdx? (fun o => !rowO p o) with
      | some i => rw [e] at h; cases h
      | none =>
        refine ⟨os, rfl, by omega, fun o ho => ?_⟩
        have q := List.findIdx?_eq_none_iff.mp e o ho
        simpa using q
theorem part_two {dp : PyData} (h : partD dp = true) : dp = .str "code" ∨ dp = .str "data" := by
  cases dp with
  | str z =>
    have q : partsL.contains z = true := h
    simp [partsL] at q
    rcases q with rfl | rfl
    · exact .inl rfl
    · exact .inr rfl
  | _ => cases h
theorem lenp {f : Str} {y : V} {fs : List (Str × V)} {n : Nat} (h : fs.length ≤ n) : (putF f y fs).length ≤ n + 1 := Nat.le_trans (length_putF f y fs) (Nat.succ_le_succ h)
section
variable {P : Program} {w : World} {K : PySem.W.Frag} {mg : Str → Option Value} {base : Heap} {Z : Fs}
theorem i_is_name {H : Hp} {Q : VK} {E : XK} {b : Addr} {v : V} {d : PyData} (h : Dt K H b v d) (q : ∀ H' : Hp, Same H H' → Q (.bl (nmV v)) H') : sp_is_name K [v] H Q E := ⟨v, b, dep d, rfl, h.okv (Nat.le_refl _), q⟩
theorem i_is_part {H : Hp} {Q : VK} {E : XK} {b : Addr} {v : V} {d : PyData} (h : Dt K H b v d) (q : ∀ H' : Hp, Same H H' → Q (.bl (partD d)) H') : sp_is_part K [v] H Q E := ⟨v, b, d, rfl, h, q⟩
theorem i_is_alignment {H : Hp} {Q : VK} {E : XK} {b : Addr} {v : V} {d : PyData} (h : Dt K H b v d) (q : ∀ H' : Hp, Same H H' → Q (.bl (alV v)) H') : sp_is_alignment K [v] H Q E := ⟨v, b, dep d, rfl, h.okv (Nat.le_refl _), q⟩
theorem i_is_scope_of {H : Hp} {Q : VK} {E : XK} {b : Addr} {p : Str} {v : V} {d : PyData} (h : Dt K H b v d) (q : ∀ H' : Hp, Same H H' → Q (.bl (scopeD p d)) H') : sp_is_scope_of K [.str p, v] H Q E := ⟨p, v, b, d, rfl, h, q⟩
def sp_init (K : PySem.W.Frag) (C : Addr) (k : Ks) : Sp := fun vs H Q E => ∃ (x dx b : Addr) (n p r a s kp : V) (dn dp da ds : PyData) (N : Addr → Prop) (rr : Option (List (Option (List V)))), vs = [.ref x, n, p, r, a, s, kp] ∧ H x = some (.ins C dx []) ∧
  GV K H b n dn (nmV n) ∧ GV K H b p dp (partD dp) ∧ GV K H b a da (alV a) ∧ GV K H b s ds (scopeD (strD dp) ds) ∧ RowsV H N r rr ∧
  (∀ e xs, pieceE k n p a s dp ds rr = some (e, xs) → ∀ d H', ErrAt H H' d e xs → E (.ref e.D) (some d) H') ∧
  (∀ os, pieceE k n p a s dp ds rr = none → rr = some os → ∀ (H' : Hp) (q : Addr) (fs : List (Str × V)) (ys : List V), Stp x H H' → H' x = some (.ins C dx fs) → fs.lookup ("_rows" : Str) = some (V.ref q) → H' q = some (.lst ys) → ys.length = os.length → Q .non H')
theorem ok_Piece_init {k : Ks} (T : Txt K w mg Z) (L : Lg P K mg k) : FnOk P w K mg base (L2N.CX P w) 7 Z.a_Piece___init__ Z.d_Piece___init__ ["self", "name", "part", "rows", "alignment", "scope", "keep"] (sp_init K Z.C_Piece k) := by
  obtain ⟨f0, fd0, EC_InvalidName⟩ := L.n
  obtain ⟨f1, fd1, EC_InvalidPart⟩ := L.p
  obtain ⟨f2, fd2, EC_InvalidAlignment⟩ := L.a
  obtain ⟨f3, fd3, EC_InvalidScope⟩ := L.s
  obtain ⟨f6, fd6, EC_NotClosing⟩ := L.c
  have G_is_name : FnOk P w K mg base CX0 1 Z.a_is_name Z.d_is_name ["value"] (sp_is_name K) := ok_is_name T
  have G_is_part : FnOk P w K mg base CX0 1 Z.a_is_part Z.d_is_part ["value"] (sp_is_part K) := ok_is_part T
  have G_check_rows := ok_check_rows (P := P) (base := base) T L
  have G_ends_closing := ok_ends_closingA (P := P) (base := base) T
  have G_is_alignment : FnOk P w K mg base CX0 2 Z.a_is_alignment Z.d_is_alignment ["value"] (sp_is_alignment K) := ok_is_alignment T
  have G_is_scope_of : FnOk P w K mg base CX0 1 Z.a_is_scope_of Z.d_is_scope_of ["part", "value"] (sp_is_scope_of K) := ok_is_scope_of T
  have G_E_InvalidName := ok_E_InvalidName (P := P) (w := w) (base := base) L.PS EC_InvalidName
  have G_E_InvalidPart := ok_E_InvalidPart (P := P) (w := w) (base := base) L.PS EC_InvalidPart
  have G_E_InvalidAlignment := ok_E_InvalidAlignment (P := P) (w := w) (base := base) L.PS EC_InvalidAlignment
  have G_E_InvalidScope := ok_E_InvalidScope (P := P) (w := w) (base := base) L.PS EC_InvalidScope
  have G_E_NotClosing := ok_E_NotClosing (P := P) (w := w) (base := base) L.PS EC_NotClosing
  refine T.F_Piece___init__.ok sc_Piece___init__ (fun vs H Q E h => ?_) (fun cdv A outer s H vs Q E hr h => ?_)
  · obtain ⟨x, dx, b, n, p, r, a, s, kp, dn, dp, da, ds, N, rr, rfl, _⟩ := h
    rfl
  · obtain ⟨x, dx, b, n, p, r, a, s', kp, dn, dp, da, ds, N, rr, rfl, hx, gn, gp, ga, gs, hR, kE, kV⟩ := h
    have tk : L2N.Takes (cxOf (L2N.CX P w) P w K mg base N_Piece___init__ "Piece.__init__" (defScope s_Piece___init__) Z.a_Piece___init__ cdv A outer s H E) (fun cls d _ H => E cls d H) := L2N.takes_of (E₁ := fun e' s'' => L2N.CX P w outer H s E e' s'') rfl rfl rfl rfl
    refine ⟨_, (pss_cons (ps_if (pt_not (pt_val (pe_call G_is_name (hr.mono (by omega)) (by rfl) T.m_is_name T.F_is_name.kp T.b_is_name .nil pass0 (pa_cons (pv 1) pa_nil)))) (pss_one (L2N.ps_raise rfl tk (LendN.pmkN_own EC_InvalidName.V.oex EC_InvalidName.V.ini EC_InvalidName.V.tI G_E_InvalidName (hr.mono (by omega)) EC_InvalidName.b pass0 (by rfl) EC_InvalidName.V.mgx (pa_cons (pv 1) pa_nil)))) pss_nil)
      (pss_cons (ps_if (pt_not (pt_val (pe_call G_is_part (hr.mono (by omega)) (by rfl) T.m_is_part T.F_is_part.kp T.b_is_part .nil pass0 (pa_cons (pv 2) pa_nil)))) (pss_one (L2N.ps_raise rfl tk (LendN.pmkN_own EC_InvalidPart.V.oex EC_InvalidPart.V.ini EC_InvalidPart.V.tI G_E_InvalidPart (hr.mono (by omega)) EC_InvalidPart.b pass0 (by rfl) EC_InvalidPart.V.mgx (pa_cons (pv 2) pa_nil)))) pss_nil)
      (pss_cons (ps_expr (pe_call G_check_rows (hr.mono (by omega)) (by rfl) T.m_check_rows T.F_check_rows.kp T.b_check_rows .nil (L2N.passes_call tk (fun _ _ _ _ h => h)) (pa_cons (pv 2) (pa_cons (pv 3) pa_nil))))
      (pss_cons (ps_if (pt_not (pt_val (pe_call G_ends_closing (hr.mono (by omega)) (by rfl) T.m_ends_closing T.F_ends_closing.kp T.b_ends_closing .nil pass0 (pa_cons (pv 2) (pa_cons (pv 3) pa_nil))))) (pss_one (L2N.ps_raise rfl tk (LendN.pmkN_own0 EC_NotClosing.V.oex EC_NotClosing.V.ini EC_NotClosing.V.tI G_E_NotClosing (hr.mono (by omega)) EC_NotClosing.b pass0 (by rfl) EC_NotClosing.V.mgx))) pss_nil)
      (pss_cons (ps_if (pt_not (pt_val (pe_call G_is_alignment (hr.mono (by omega)) (by rfl) T.m_is_alignment T.F_is_alignment.kp T.b_is_alignment .nil pass0 (pa_cons (pv 4) pa_nil)))) (pss_one (L2N.ps_raise rfl tk (LendN.pmkN_own EC_InvalidAlignment.V.oex EC_InvalidAlignment.V.ini EC_InvalidAlignment.V.tI G_E_InvalidAlignment (hr.mono (by omega)) EC_InvalidAlignment.b pass0 (by rfl) EC_InvalidAlignment.V.mgx (pa_cons (pv 4) pa_nil)))) pss_nil)
      (pss_cons (ps_if (pt_not (pt_val (pe_call G_is_scope_of (hr.mono (by omega)) (by rfl) T.m_is_scope_of T.F_is_scope_of.kp T.b_is_scope_of .nil pass0 (pa_cons (pv 2) (pa_cons (pv 5) pa_nil))))) (pss_one (L2N.ps_raise rfl tk (LendN.pmkN_own EC_InvalidScope.V.oex EC_InvalidScope.V.ini EC_InvalidScope.V.tI G_E_InvalidScope (hr.mono (by omega)) EC_InvalidScope.b pass0 (by rfl) EC_InvalidScope.V.mgx (pa_cons (pv 5) pa_nil)))) pss_nil)
      (pss_cons (ps_fld (pv 0) (pv 1) rfl)
      (pss_cons (ps_fld (pv 0) (pv 2) rfl)
      (pss_cons (ps_fld (pv 0) (pv 4) rfl)
      (pss_cons (ps_fld (pv 0) (pv 5) rfl)
      (pss_cons (ps_fld (pv 0) (pv 6) rfl)
      (pss_one (ps_fld (pv 0) (pe_callTy Go.c_list (by rfl) T.n_list boot_list (pa_cons (pv 3) pa_nil)) rfl))))))))))))), ?_⟩
    rw [show L2.start N_Piece___init__ [V.ref x, n, p, r, a, s', kp] = [some (V.ref x), some (n), some (p), some (r), some (a), some (s'), some (kp)] from rfl]
    try dsimp only [cxOf, Cx.nox]
    tm_at "go"
    refine i_is_name gn.dt fun H1 s1 => ?_
    tm_at "go"
    · rename_i q1
      refine i_is_part (gp.same s1).dt fun H2 s2 => ?_
      tm_at "go"
      · rename_i q2
        have S2 : Same H H2 := s1.trans s2
        obtain ⟨pz, rfl⟩ : ∃ z, p = .str z := by
          rcases part_two q2 with rfl | rfl
          · have z := gp.dt
            cases z
            exact ⟨_, rfl⟩
          · have z := gp.dt
            cases z
            exact ⟨_, rfl⟩
        obtain rfl : dp = .str pz := by
          have z := gp.dt
          cases z
          rfl
        have two : pz = "code" ∨ pz = "data" := by
          rcases part_two q2 with h | h
          · cases h; exact .inl rfl
          · cases h; exact .inr rfl
        refine ⟨pz, r, N, rr, rfl, hR.same S2, ?_⟩
        cases e3 : rowsE k pz rr with
        | some e =>
          obtain ⟨e, xs⟩ := e
          exact fun d H' ea => kE _ _ (pieceE3 q1 q2 e3) d H' ⟨Go.freeS S2 ea.new, S2.trans ea.same, ea.at_⟩
        | none =>
          obtain ⟨os, rfl, l16, hos⟩ := rowsE_ok e3
          cases hR with
          | @lst ra xs _ er nA hl hp =>
            have lo : xs.length = os.length := Paired.length hp
            intro v H3 s3
            have S3 : Same H H3 := S2.trans s3
            tm_at "go"
            refine ⟨pz, ra, N, xs, os, rfl, S3 _ _ er, Paired.mapP hp fun _ _ u => u.same S3, by omega, fun np o ho => ?_, fun H4 s4 => ?_⟩
            · have z := hos o ho
              rcases two with rfl | rfl
              · exact z
              · exact absurd rfl np
            · have S4 : Same H H4 := S3.trans s4
              tm_at "go"
              · rename_i q4
                refine i_is_alignment (ga.same S4).dt fun H5 s5 => ?_
                have S5 : Same H H5 := S4.trans s5
                tm_at "go"
                · rename_i q5
                  refine i_is_scope_of (gs.same S5).dt fun H6 s6 => ?_
                  have s06 : Same H H6 := S5.trans s6
                  tm_at "go"
                  · rename_i q6
                    have e0 := s06 _ _ hx
                    refine ⟨n, rfl, .ref x, rfl, x, _, dx, [], rfl, e0, T.cl_Piece, T.n_Piece_name, by show 0 < 1000; decide, ?_⟩
                    refine ⟨.str pz, rfl, .ref x, rfl, x, _, dx, _, rfl, upd_same, T.cl_Piece, T.n_Piece_part, Nat.lt_of_le_of_lt (lenp (n := 0) (Nat.zero_le _)) (by decide), ?_⟩
                    refine ⟨a, rfl, .ref x, rfl, x, _, dx, _, rfl, upd_same, T.cl_Piece, T.n_Piece_alignment, Nat.lt_of_le_of_lt (lenp (lenp (n := 0) (Nat.zero_le _))) (by decide), ?_⟩
                    refine ⟨s', rfl, .ref x, rfl, x, _, dx, _, rfl, upd_same, T.cl_Piece, T.n_Piece_scope, Nat.lt_of_le_of_lt (lenp (lenp (lenp (n := 0) (Nat.zero_le _)))) (by decide), ?_⟩
                    refine ⟨kp, rfl, .ref x, rfl, x, _, dx, _, rfl, upd_same, T.cl_Piece, T.n_Piece_keep, Nat.lt_of_le_of_lt (lenp (lenp (lenp (lenp (n := 0) (Nat.zero_le _))))) (by decide), ?_⟩
                    have nrx : ra ≠ x := fun z => by rw [z, hx] at er; cases er
                    have st : ∀ {G : Hp} {o : HO}, Stp x H G → Stp x H (upd G x o) := fun s => s.trans Stp.put
                    have st0 : Stp x H H6 := fun a o _ e => s06 a o e
                    have st5 := st (st (st (st (st (o := .ins Z.C_Piece dx (putF "name" n [])) st0) (o := .ins Z.C_Piece dx (putF "part" (.str pz) (putF "name" n [])))) (o := .ins Z.C_Piece dx (putF "alignment" a (putF "part" (.str pz) (putF "name" n []))))) (o := .ins Z.C_Piece dx (putF "scope" s' (putF "alignment" a (putF "part" (.str pz) (putF "name" n [])))))) (o := .ins Z.C_Piece dx (putF "keep" kp (putF "scope" s' (putF "alignment" a (putF "part" (.str pz) (putF "name" n []))))))
                    refine ⟨.ref ra, rfl, ra, xs, rfl, .inl (SqL.of (st5 _ _ nrx er)), fun q hq => ?_⟩
                    have nq : q ≠ x := fun e => by rw [e, upd_same] at hq; cases hq
                    refine ⟨.ref x, rfl, x, _, dx, _, rfl, by rw [upd_ne nq.symm]; exact upd_same, T.cl_Piece, T.n_Piece__rows, Nat.lt_of_le_of_lt (lenp (lenp (lenp (lenp (lenp (n := 0) (Nat.zero_le _)))))) (by decide), ?_⟩
                    exact kV os (pieceE7 q1 q2 e3 q4 q5 q6) rfl _ q _ xs ((st5.trans (Stp.new hq)).trans Stp.put) upd_same (by rw [lookup_putF, if_pos rfl]) (by rw [upd_ne nq]; exact upd_same) lo
                  · rename_i q6
                    obtain ⟨c, hs, hl⟩ := gs.shows q6
                    exact mk_err rfl (Shows.same s06 hs) hl fun d G' e => kE _ _ (pieceE6 q1 q2 e3 q4 q5 q6) d G' ⟨Go.freeS s06 e.new, s06.trans e.same, e.at_⟩
                · rename_i q5
                  obtain ⟨c, hs, hl⟩ := ga.shows q5
                  exact mk_err rfl (Shows.same S5 hs) hl fun d G' e => kE _ _ (pieceE5 q1 q2 e3 q4 q5) d G' ⟨Go.freeS S5 e.new, S5.trans e.same, e.at_⟩
              · rename_i q4
                exact mk_err0 fun d G' e => kE _ _ (pieceE4 q1 q2 e3 q4) d G' ⟨Go.freeS S4 e.new, S4.trans e.same, e.at_⟩
      · rename_i q2
        obtain ⟨c, hs, hl⟩ := gp.shows q2
        exact mk_err rfl (Shows.same (s1.trans s2) hs) hl fun d G' e => kE _ _ (pieceE2 q1 q2) d G' ⟨Go.freeS (s1.trans s2) e.new, (s1.trans s2).trans e.same, e.at_⟩
    · rename_i q1
      obtain ⟨c, hs, hl⟩ := gn.shows q1
      exact mk_err rfl (Shows.same s1 hs) hl fun d G' e => kE _ _ (pieceE1 q1) d G' ⟨Go.freeS s1 e.new, s1.trans e.same, e.at_⟩
def sp_len (C : Addr) : Sp := fun vs H Q _ => ∃ (x dx q : Addr) (fs : List (Str × V)) (ys : List V), vs = [.ref x] ∧ H x = some (.ins C dx fs) ∧ fs.lookup ("_rows" : Str) = some (V.ref q) ∧ H q = some (.lst ys) ∧ Q (.int (ys.length : Nat)) H
theorem ok_Piece_len (T : Txt K w mg Z) : FnOk P w K mg base CX0 1 Z.a_Piece___len__ Z.d_Piece___len__ ["self"] (sp_len Z.C_Piece) := by
  refine T.F_Piece___len__.ok sc_Piece___len__ (fun vs H Q E h => ?_) (fun cdv A outer s H vs Q E hr h => ?_)
  · obtain ⟨x, dx, q, fs, ys, rfl, _⟩ := h
    rfl
  · obtain ⟨x, dx, q, fs, ys, rfl, hx, hl, hq, k⟩ := h
    refine ⟨_, (pss_one (ps_ret (pe_callB (Go.c_len : CallR _ _ (Go.RLen K)) (by rfl) T.n_len boot_len (pa_cons (pe_fld (pv 0) rfl) pa_nil)))), ?_⟩
    exact ⟨.ref x, rfl, x, _, dx, _, .ref q, rfl, hx, T.cl_Piece, T.n_Piece__rows, hl, .ref q, ys.length, rfl, .inl ⟨_, SqL.of hq, rfl⟩, k⟩
end

theorem dint {a b : Int} : decide (V.int a = V.int b) = decide (a = b) := by
  by_cases c : a = b
  · rw [c, decide_eq_true rfl, decide_eq_true rfl]
  · rw [decide_eq_false c, decide_eq_false fun z => c (V.int.inj z)]
section
variable {P : Program} {w : World} {K : PySem.W.Frag} {mg : Str → Option Value} {base : Heap} {Z : Fs}
/-! ### a closing row that is told as such -/
def sp_law_last_row : Sp := fun vs H Q _ => ∃ (b l t : Addr) (ts : List Str), vs = [.ref b, .ref t] ∧ Bag H b l ∧ Tls H b t ts ∧ ∀ (H' : Hp) (a : Addr) (xs : List V), Stp b H H' → Bag H' b l → H' a = some (.tup xs) → a ≠ b → CRow ts xs → inV (hd0 xs) closL = true → Q (.ref a) H'
theorem ok_law_last_row (T : Txt K w mg Z) : FnOk P w K mg base CX0 3 Z.a_law_last_row Z.d_law_last_row ["_law_bag_here", "_law_titles_here"] sp_law_last_row := by
  have G_law_of : FnOk P w K mg base CX0 2 Z.a_law_of Z.d_law_of ["_law_bag_here", "_law_things"] (sp_law_ofO K) := ok_law_ofO T
  refine T.F_law_last_row.ok sc_law_last_row (fun vs H Q E h => ?_) (fun cdv A outer s H vs Q E hr h => ?_)
  · obtain ⟨b, l, t, ts, rfl, _⟩ := h
    rfl
  · obtain ⟨b, l, t, ts, rfl, B, TT, k⟩ := h
    refine ⟨_, (pss_one (ps_ret (pe_call G_law_of (hr.mono (by omega)) (by rfl) T.m_law_of T.F_law_of.kp T.b_law_of .nil pass0 (pa_cons (pv 0) (pa_cons (pe_lst (pa_cons (pe_tup (pa_cons pe_str (pa_cons (pe_call G_law_of (hr.mono (by omega)) (by rfl) T.m_law_of T.F_law_of.kp T.b_law_of .nil pass0 (pa_cons (pv 0) (pa_cons (pv 1) pa_nil))) pa_nil))) (pa_cons (pe_tup (pa_cons pe_str pa_nil)) (pa_cons (pe_tup (pa_cons pe_str pa_nil)) pa_nil)))) pa_nil))))), ?_⟩
    refine ⟨.ref b, rfl, .ref b, rfl, .ref t, rfl, b, l, .ref t, _, rfl, B, TT.thg, fun H0 u s0 B0 hu => ?_⟩
    obtain ⟨z, rfl, hz⟩ := hu
    refine ⟨(by show 2 ≤ sizeLine; decide), fun p1 h1 => ?_⟩
    have n1 := B0.ne h1
    have s1 : Same H0 (upd H0 p1 (.tup [V.str "jump", V.str z])) := Same.new h1
    have e1 : (upd H0 p1 (.tup [V.str "jump", V.str z])) p1 = some (.tup [V.str "jump", V.str z]) := upd_same
    generalize upd H0 p1 (.tup [V.str "jump", V.str z]) = H1 at s1 e1 ⊢
    have B1 := B0.same s1
    refine ⟨(by show 1 ≤ sizeLine; decide), fun p2 h2 => ?_⟩
    have n2 := B1.ne h2
    have s2 : Same H1 (upd H1 p2 (.tup [V.str "halt"])) := Same.new h2
    have e2 : (upd H1 p2 (.tup [V.str "halt"])) p2 = some (.tup [V.str "halt"]) := upd_same
    generalize upd H1 p2 (.tup [V.str "halt"]) = H2 at s2 e2 ⊢
    have B2 := B1.same s2
    refine ⟨(by show 1 ≤ sizeLine; decide), fun p3 h3 => ?_⟩
    have n3 := B2.ne h3
    have s3 : Same H2 (upd H2 p3 (.tup [V.str "back"])) := Same.new h3
    have e3 : (upd H2 p3 (.tup [V.str "back"])) p3 = some (.tup [V.str "back"]) := upd_same
    generalize upd H2 p3 (.tup [V.str "back"]) = H3 at s3 e3 ⊢
    have B3 := B2.same s3
    refine ⟨(by show 3 ≤ sizeLine; decide), fun q4 hq4 => ?_⟩
    have f2 := s3 _ _ e2
    have f1 := s3 _ _ (s2 _ _ e1)
    refine ⟨b, l, .ref q4, fun v => ∃ (a : Addr) (xs : List V), v = .ref a ∧ H3 a = some (.tup xs) ∧ a ≠ b ∧ CRow ts xs ∧ inV (hd0 xs) closL = true, rfl, B3.new hq4, .lst (B3.ne hq4) (SqL.of upd_same) (by show 0 < 3; decide) (by show 3 ≤ 100000; decide) (memc ⟨_, _, rfl, f1, n1, .jump hz, by show inV (.str "jump") closL = true; decide +kernel⟩ (memc ⟨_, _, rfl, f2, n2, .halt, by decide +kernel⟩ (mem1 ⟨_, _, rfl, e3, n3, .back, by decide +kernel⟩))), fun H5 u s5 B5 hu => ?_⟩
    obtain ⟨a, xs, rfl, ea, na, hx, hc⟩ := hu
    exact k _ a xs (((s0.trans (Same.stp ((s1.trans s2).trans s3))).trans (Stp.new hq4)).trans s5) B5 (s5 _ _ na ((Stp.new hq4) _ _ na ea)) na hx hc
/-! ### a drawn model of a piece -/
def ModQ (H : Hp) (m lot : Addr) (M : PM) : Prop := ∃ as : List Addr, H m = some (.tup [.str M.name, .str M.part, .ref lot, .int M.al, .str M.scope, .bl M.keep]) ∧ H lot = some (.lst (as.map V.ref)) ∧ RowsIn H as M.rows
theorem ModQ.same {H H' : Hp} {m lot : Addr} {M : PM} (s : Same H H') (h : ModQ H m lot M) : ModQ H' m lot M := by
  obtain ⟨as, h1, h2, h3⟩ := h
  exact ⟨as, s _ _ h1, s _ _ h2, h3.tups (Same.tups s)⟩
theorem ModQ.stp {H H' : Hp} {b l m lot : Addr} {M : PM} (s : Stp b H H') (B : Bag H b l) (n : lot ≠ b) (h : ModQ H m lot M) : ModQ H' m lot M := by
  obtain ⟨as, h1, h2, h3⟩ := h
  obtain ⟨_, _, _, _, _, g1, _⟩ := id B
  exact ⟨as, s _ _ (ne_of h1 g1 (by intro z; cases z)) h1, s _ _ n h2, h3.tups (s.tups B)⟩
theorem ModQ.put {H : Hp} {m lot g : Addr} {o : HO} {M : PM} {xs : List V} (e : H g = some (.lst xs)) (n : lot ≠ g) (h : ModQ H m lot M) : ModQ (upd H g o) m lot M := by
  obtain ⟨as, h1, h2, h3⟩ := h
  refine ⟨as, ?_, by rw [upd_ne n]; exact h2, h3.tups (TupS.put (fun _ _ x => x) fun ys z => by rw [e] at z; cases z)⟩
  rw [upd_ne (ne_of h1 e (by intro z; cases z))]
  exact h1
def sp_model (K : PySem.W.Frag) : Sp := fun vs H Q _ => ∃ (b l t : Addr) (ts : List Str) (t0 : Str) (most : Int), vs = [.ref b, .str t0, .ref t, .int most] ∧ Bag H b l ∧ Tls H b t ts ∧ (∀ z ∈ ts, Nm z) ∧ t0 ∈ ts ∧ 0 ≤ most ∧ most ≤ 15 ∧
  ∀ (H' : Hp) (m lot : Addr) (M : PM), Stp b H H' → Bag H' b l → H lot = none → lot ≠ b → lot ≠ l → ModQ H' m lot M → M.Ok ts → M.name = t0 → Q (.ref m) H'
theorem ok_law_piece_model (T : Txt K w mg Z) : FnOk P w K mg base CX0 5 Z.a_law_piece_model Z.d_law_piece_model ["_law_bag_here", "_law_title", "_law_titles_here", "_law_most"] (sp_model K) := by
  have G_law_draw : FnOk P w K mg base CX0 1 Z.a_law_draw Z.d_law_draw ["_law_bag_here", "_law_sides"] sp_law_draw := ok_law_draw T
  have G_law_of : FnOk P w K mg base CX0 2 Z.a_law_of Z.d_law_of ["_law_bag_here", "_law_things"] (sp_law_ofO K) := ok_law_ofO T
  have G_law_code_row : FnOk P w K mg base CX0 4 Z.a_law_code_row Z.d_law_code_row ["_law_bag_here", "_law_titles_here"] sp_law_code_row := ok_law_code_row T
  have G_law_data_row : FnOk P w K mg base CX0 4 Z.a_law_data_row Z.d_law_data_row ["_law_bag_here", "_law_titles_here"] sp_law_data_row := ok_law_data_row T
  have G_law_last_row : FnOk P w K mg base CX0 3 Z.a_law_last_row Z.d_law_last_row ["_law_bag_here", "_law_titles_here"] sp_law_last_row := ok_law_last_row T
  refine T.F_law_piece_model.ok sc_law_piece_model (fun vs H Q E h => ?_) (fun cdv A outer s H vs Q E hr h => ?_)
  · obtain ⟨b, l, t, ts, t0, most, rfl, _⟩ := h
    rfl
  · obtain ⟨b, l, t, ts, t0, most, rfl, B, TT, hz, ht0, hm0, hm1, k⟩ := h
    refine ⟨_, (pss_cons (ps_set (i := 4) sc_law_piece_model.nd rfl (Or.inl rfl) (pe_call G_law_of (hr.mono (by omega)) (by rfl) T.m_law_of T.F_law_of.kp T.b_law_of .nil pass0 (pa_cons (pv 0) (pa_cons (pe_lst (pa_cons pe_str (pa_cons pe_str (pa_cons pe_str pa_nil)))) pa_nil))))
      (C8.pss_cut (ps_set (i := 5) sc_law_piece_model.nd rfl (Or.inl rfl) (pe_op op_cat (pe_lst (pa_cons pe_str (pa_cons pe_str (pa_cons pe_str pa_nil)))) (pe_ifExp (pt_cmpR op_eq (pv 4) pe_str (nomark _)) (pe_lst (pa_cons pe_str pa_nil)) (pe_lst pa_nil))))
      (C8.pss_cut (ps_if (pt_cmpR op_eq (pv 4) pe_str (nomark _)) (pss_one (ps_set (i := 6) sc_law_piece_model.nd rfl (Or.inl rfl) (pe_op op_cat (pe_lc (own := [("_law_k", 7)]) (g := gName 7) (tt := tYes) rfl sc_law_piece_model.nd (pi_range1 (by rfl) T.n_range (pa_cons (pe_call G_law_draw (hr.mono (by omega)) (by rfl) T.m_law_draw T.F_law_draw.kp T.b_law_draw .nil pass0 (pa_cons (pv 0) (pa_cons (pe_op op_add (pv 3) pe_int) pa_nil))) pa_nil)) (blkOk_by (N := N_law_piece_model) (sc := defScope s_law_piece_model) (by decide +kernel)) (fun _ _ _ _ _ => pg_name (i := 7) sc_law_piece_model.nd rfl (Or.inl rfl)) (fun _ _ _ _ _ => pts_nil) (fun _ _ _ _ _ => (pe_call G_law_code_row (hr.mono (by omega)) (by rfl) T.m_law_code_row T.F_law_code_row.kp T.b_law_code_row .nil pass0 (pa_cons (pv 0) (pa_cons (pv 2) pa_nil))))) (pe_lst (pa_cons (pe_call G_law_last_row (hr.mono (by omega)) (by rfl) T.m_law_last_row T.F_law_last_row.kp T.b_law_last_row .nil pass0 (pa_cons (pv 0) (pa_cons (pv 2) pa_nil))) pa_nil))))) (pss_one (ps_setLc (i := 6) (own := [("_law_k", 7)]) (g := gName 7) (tt := tYes) rfl sc_law_piece_model.nd rfl rfl (sw_true rfl rfl rfl (by decide +kernel)) (pi_range1 (by rfl) T.n_range (pa_cons (pe_call G_law_draw (hr.mono (by omega)) (by rfl) T.m_law_draw T.F_law_draw.kp T.b_law_draw .nil pass0 (pa_cons (pv 0) (pa_cons (pe_op op_add (pv 3) pe_int) pa_nil))) pa_nil)) (blkOk_by (N := N_law_piece_model) (sc := defScope s_law_piece_model) (by decide +kernel)) (fun _ _ _ _ _ => pg_name (i := 7) sc_law_piece_model.nd rfl (Or.inl rfl)) (fun _ _ _ _ _ => pts_nil) (fun _ _ _ _ _ => (pe_call G_law_data_row (hr.mono (by omega)) (by rfl) T.m_law_data_row T.F_law_data_row.kp T.b_law_data_row .nil pass0 (pa_cons (pv 0) (pa_cons (pv 2) pa_nil)))))))
      (pss_one (ps_ret (pe_tup (pa_cons (pv 1) (pa_cons (pv 4) (pa_cons (pv 6) (pa_cons (pe_call G_law_of (hr.mono (by omega)) (by rfl) T.m_law_of T.F_law_of.kp T.b_law_of .nil pass0 (pa_cons (pv 0) (pa_cons (pe_lst (pa_cons pe_int (pa_cons pe_int (pa_cons pe_int (pa_cons pe_int (pa_cons pe_int (pa_cons pe_int pa_nil))))))) pa_nil))) (pa_cons (pe_call G_law_of (hr.mono (by omega)) (by rfl) T.m_law_of T.F_law_of.kp T.b_law_of .nil pass0 (pa_cons (pv 0) (pa_cons (pv 5) pa_nil))) (pa_cons (pe_cmpR op_eq (pe_call G_law_draw (hr.mono (by omega)) (by rfl) T.m_law_draw T.F_law_draw.kp T.b_law_draw .nil pass0 (pa_cons (pv 0) (pa_cons pe_int pa_nil))) pe_int (nomark _)) pa_nil)))))))))))), ?_⟩
    refine ⟨.ref b, rfl, (by show 3 ≤ sizeLine; decide), fun q hq => ⟨b, l, .ref q, fun v => ∃ z : Str, v = .str z ∧ (z = "code" ∨ z = "data"), rfl, B.new hq, .lst (B.ne hq) (SqL.of upd_same) (by show 0 < 3; decide) (by show 3 ≤ 100000; decide) (memc ⟨_, rfl, .inl rfl⟩ (memc ⟨_, rfl, .inl rfl⟩ (mem1 ⟨_, rfl, .inr rfl⟩))), fun H1 v s1 B1 hv => ?_⟩⟩
    obtain ⟨side, rfl, hside⟩ := hv
    replace s1 := (Stp.new hq).trans s1
    clear hq
    -- the scopes
    refine ⟨fun σ H' => ∃ (g : Addr) (scs : List V), σ = [some (.ref b), some (.str t0), some (.ref t), some (.int most), some (.str side), some (.ref g), none, none] ∧ Stp b H H' ∧ Bag H' b l ∧ g ≠ b ∧ H' g = some (.lst scs) ∧ 0 < scs.length ∧ scs.length ≤ 100000 ∧ ∀ v ∈ scs, ∃ z : Str, v = .str z ∧ z ∈ (["local", "export", "open", "weak"] : List Str) ∧ (side = "data" → z ≠ "open"), ?_, ?_⟩
    · refine ⟨(by show 3 ≤ sizeLine; decide), fun p1 h1 => ?_⟩
      have s2 : Same H1 (upd H1 p1 (.lst [V.str "local", V.str "export", V.str "weak"])) := Same.new h1
      have e2 : (upd H1 p1 (.lst [V.str "local", V.str "export", V.str "weak"])) p1 = some (.lst [V.str "local", V.str "export", V.str "weak"]) := upd_same
      generalize upd H1 p1 (.lst [V.str "local", V.str "export", V.str "weak"]) = H2 at s2 e2 ⊢
      have B2 := B1.same s2
      refine ⟨.str side, rfl, rfl, _, rfl, ?_⟩
      have three : ∀ (d : side = "data" → True), ∀ v ∈ [V.str "local", V.str "export", V.str "weak"], ∃ z : Str, v = .str z ∧ z ∈ (["local", "export", "open", "weak"] : List Str) ∧ (side = "data" → z ≠ "open") := fun _ => memc ⟨_, rfl, by decide +kernel, fun _ => by decide +kernel⟩ (memc ⟨_, rfl, by decide +kernel, fun _ => by decide +kernel⟩ (mem1 ⟨_, rfl, by decide +kernel, fun _ => by decide +kernel⟩))
      by_cases c : side = "code"
      · refine iteY (by rw [c]) ⟨(by show 1 ≤ sizeLine; decide), fun p2 h2 => ?_⟩
        have s3 : Same H2 (upd H2 p2 (.lst [V.str "open"])) := Same.new h2
        have e3 : (upd H2 p2 (.lst [V.str "open"])) p2 = some (.lst [V.str "open"]) := upd_same
        generalize upd H2 p2 (.lst [V.str "open"]) = H3 at s3 e3 ⊢
        refine ⟨p1, p2, _, _, rfl, rfl, s3 _ _ e2, e3, (by show 4 ≤ sizeLine; decide), fun p3 h3 => ?_⟩
        refine ⟨p3, _, rfl, s1.trans (Same.stp ((s2.trans s3).trans (Same.new h3))), (B2.same s3).new h3, (B2.same s3).ne h3, upd_same, by show 0 < 4; decide, by show 4 ≤ 100000; decide, mema (three fun _ => trivial) (mem1 ⟨_, rfl, by decide +kernel, fun d => ?_⟩)⟩
        rw [c] at d
        exact absurd d (by decide +kernel)
      · refine iteN (fun z => c (V.str.inj z)) ⟨(by show 0 ≤ sizeLine; decide), fun p2 h2 => ?_⟩
        have s3 : Same H2 (upd H2 p2 (.lst [])) := Same.new h2
        have e3 : (upd H2 p2 (.lst [])) p2 = some (.lst []) := upd_same
        generalize upd H2 p2 (.lst []) = H3 at s3 e3 ⊢
        refine ⟨p1, p2, _, _, rfl, rfl, s3 _ _ e2, e3, (by show 3 ≤ sizeLine; decide), fun p3 h3 => ?_⟩
        exact ⟨p3, _, rfl, s1.trans (Same.stp ((s2.trans s3).trans (Same.new h3))), (B2.same s3).new h3, (B2.same s3).ne h3, upd_same, by show 0 < 3; decide, by show 3 ≤ 100000; decide, three fun _ => trivial⟩
    rintro σ H2 ⟨g, scs, rfl, s2, B2, ng, eg, l0, l1, hs⟩
    clear s1 B1
    refine ⟨fun σ H' => ∃ (lot : Addr) (y7 : Option V) (as : List Addr) (rs : List (List V)), σ = [some (.ref b), some (.str t0), some (.ref t), some (.int most), some (.str side), some (.ref g), some (.ref lot), y7] ∧ Stp b H H' ∧ Bag H' b l ∧ H' g = some (.lst scs) ∧ H lot = none ∧ lot ≠ b ∧ lot ≠ l ∧ H' lot = some (.lst (as.map V.ref)) ∧ RowsIn H' as rs ∧ (∀ xs ∈ rs, RowOf ts side xs) ∧ rs.length ≤ 16 ∧ (side = "code" → ∃ r xs, rs = r ++ [xs] ∧ inV (hd0 xs) closL = true), ?_, ?_⟩
    · refine ⟨.str side, rfl, rfl, _, rfl, ?_⟩
      have ro : ∀ {H' : Hp} {a : Addr} {xs : List V}, H' a = some (.tup xs) → H' a = some (.tup xs) := fun e => e
      by_cases c : side = "code"
      · refine iteY (by rw [c]) ⟨.ref b, rfl, .int most, rfl, _, _, rfl, rfl, b, l, most + 1, rfl, B2, by omega, by omega, fun H3 d s3 B3 g0 g1 => ⟨d, rfl, by omega, by omega, fun D hD => ?_⟩⟩
        have nD := B3.ne hD
        have lD := B3.nel hD
        have D0 : H D = none := (s2.trans s3).free B3 hD
        have T3 := TT.stp (s2.trans s3)
        have ntD : t ≠ D := ne_of_none T3.1 hD
        have e3 := s3 _ _ ng eg
        have ngD : g ≠ D := ne_of_none e3 hD
        refine lc_it walk_range (fun i H' => Bag H' b l ∧ Stp b H3 H' ∧ ∃ (as : List Addr) (rs : List (List V)), H' D = some (.lst (as.map V.ref)) ∧ RowsIn H' as rs ∧ rs.length = i ∧ ∀ xs ∈ rs, CRow ts xs) ⟨B3.new hD, Stp.new hD, [], [], upd_same, .nil, rfl, mem0⟩ (fun _ _ _ _ => True.intro) ?_ ?_
        · rintro j x H4 H5 hj ⟨B4, s4, as, rs, e4, R4, lr, hr4⟩ ⟨rfl, rfl⟩
          refine ⟨rfl, .ref b, rfl, .ref t, rfl, b, l, t, ts, rfl, B4, T3.stp s4, fun H6 a xs s6 B6 ea na hx => ?_⟩
          have e6 := s6 _ _ nD e4
          refine ⟨_, e6, ?_, B6.put nD lD, (s4.trans s6).putnew hD, as ++ [a], rs ++ [xs], by rw [upd_same, List.map_append]; rfl, ?_, by rw [List.length_append, lr]; rfl, mema hr4 (mem1 hx)⟩
          · rw [List.length_map, R4.len, lr]
            exact Nat.lt_of_lt_of_le (show j < 16 by omega) (by decide)
          · exact RowsIn.tups (TupS.put (fun _ _ x => x) fun ys z => by rw [e6] at z; cases z) ((R4.tups (s6.tups B4)).append (.cons ea .nil))
        rintro H4 ⟨B4, s4, as, rs, e4, R4, lr, hr4⟩
        refine ⟨.ref b, rfl, .ref t, rfl, b, l, t, ts, rfl, B4, T3.stp s4, fun H5 a xs s5 B5 ea na hx hc => ?_⟩
        refine ⟨(by show 1 ≤ sizeLine; decide), fun p6 h6 => ?_⟩
        have e5 := s5 _ _ nD e4
        have R5 := R4.tups (s5.tups B4)
        have s6 : Same H5 (upd H5 p6 (.lst [V.ref a])) := Same.new h6
        have e6 : (upd H5 p6 (.lst [V.ref a])) p6 = some (.lst [V.ref a]) := upd_same
        generalize upd H5 p6 (.lst [V.ref a]) = H6 at s6 e6 ⊢
        refine ⟨D, p6, _, _, rfl, rfl, s6 _ _ e5, e6, ?_, fun p7 h7 => ?_⟩
        · show (as.map V.ref).length + 1 ≤ sizeLine
          rw [List.length_map, R4.len, lr]
          exact Nat.le_trans (show d.toNat + 1 ≤ 100 by omega) (by decide)
        have ss := (((s2.trans s3).trans s4).trans s5).trans (Same.stp s6)
        have B6 := B5.same s6
        have s56 := s6.trans (Same.new h7 (o := .lst (as.map V.ref ++ [V.ref a])))
        refine ⟨p7, _, as ++ [a], rs ++ [xs], rfl, ss.trans (Stp.new h7), B6.new h7, s56 _ _ (s5 _ _ ng (s4 _ _ ng e3)), ss.free B6 h7, B6.ne h7, B6.nel h7, by rw [upd_same, List.map_append]; rfl, (R5.append (.cons ea .nil)).tups (Same.tups s56), ?_, ?_, fun _ => ⟨rs, xs, rfl, hc⟩⟩
        · intro ys m
          unfold RowOf
          rw [if_pos c]
          exact mema hr4 (mem1 hx) ys m
        · rw [List.length_append, lr]
          show d.toNat + 1 ≤ 16
          omega
      · refine iteN (fun z => c (V.str.inj z)) ⟨.ref b, rfl, .int most, rfl, _, _, rfl, rfl, b, l, most + 1, rfl, B2, by omega, by omega, fun H3 d s3 B3 g0 g1 => ⟨d, rfl, by omega, by omega, fun D hD => ?_⟩⟩
        have nD := B3.ne hD
        have lD := B3.nel hD
        have D0 : H D = none := (s2.trans s3).free B3 hD
        have T3 := TT.stp (s2.trans s3)
        have e3 := s3 _ _ ng eg
        refine lc_it walk_range (fun i H' => Bag H' b l ∧ Stp b H3 H' ∧ ∃ (as : List Addr) (rs : List (List V)), H' D = some (.lst (as.map V.ref)) ∧ RowsIn H' as rs ∧ rs.length = i ∧ ∀ xs ∈ rs, DRow ts xs) ⟨B3.new hD, Stp.new hD, [], [], upd_same, .nil, rfl, mem0⟩ (fun _ _ _ _ => True.intro) ?_ ?_
        · rintro j x H4 H5 hj ⟨B4, s4, as, rs, e4, R4, lr, hr4⟩ ⟨rfl, rfl⟩
          refine ⟨rfl, .ref b, rfl, .ref t, rfl, b, l, t, ts, rfl, B4, T3.stp s4, fun H6 a xs s6 B6 ea na hx => ?_⟩
          have e6 := s6 _ _ nD e4
          refine ⟨_, e6, ?_, B6.put nD lD, (s4.trans s6).putnew hD, as ++ [a], rs ++ [xs], by rw [upd_same, List.map_append]; rfl, ?_, by rw [List.length_append, lr]; rfl, mema hr4 (mem1 hx)⟩
          · rw [List.length_map, R4.len, lr]
            exact Nat.lt_of_lt_of_le (show j < 16 by omega) (by decide)
          · exact RowsIn.tups (TupS.put (fun _ _ x => x) fun ys z => by rw [e6] at z; cases z) ((R4.tups (s6.tups B4)).append (.cons ea .nil))
        rintro H4 ⟨B4, s4, as, rs, e4, R4, lr, hr4⟩
        refine ⟨D, _, as, rs, rfl, (s2.trans s3).trans s4, B4, s4 _ _ ng e3, D0, nD, lD, e4, R4, ?_, by omega, fun e => absurd e c⟩
        intro ys m
        unfold RowOf
        rw [if_neg c]
        exact hr4 ys m
    rintro σ H3 ⟨lot, y7, as, rs, rfl, s3, B3, e3, z3, n3, m3, el, R3, hrs, lrs, hcl⟩
    clear s2 B2 eg
    refine ⟨.str t0, rfl, .str side, rfl, .ref lot, rfl, .ref b, rfl, (by show 6 ≤ sizeLine; decide), fun q hq => ⟨b, l, .ref q, fun v => ∃ i : Int, v = .int i ∧ i ∈ ([1, 2, 4, 8, 16] : List Int), rfl, B3.new hq, .lst (B3.ne hq) (SqL.of upd_same) (by show 0 < 6; decide) (by show 6 ≤ 100000; decide) (memc ⟨_, rfl, by decide⟩ (memc ⟨_, rfl, by decide⟩ (memc ⟨_, rfl, by decide⟩ (memc ⟨_, rfl, by decide⟩ (memc ⟨_, rfl, by decide⟩ (mem1 ⟨_, rfl, by decide⟩)))))), fun H4 v s4 B4 hv => ?_⟩⟩
    obtain ⟨al, rfl, hal⟩ := hv
    have R4 := R3.tups ((Stp.trans (Stp.new (o := .lst [V.int 1, V.int 1, V.int 2, V.int 4, V.int 8, V.int 16]) hq) s4).tups B3)
    replace s4 := (Stp.new hq).trans s4
    have e4 := s4 _ _ ng e3
    refine ⟨.ref b, rfl, .ref g, rfl, b, l, .ref g, _, rfl, B4, .lst ng (SqL.of e4) l0 l1 hs, fun H5 v s5 B5 hv => ?_⟩
    obtain ⟨sc, rfl, hsc, hop⟩ := hv
    refine ⟨.ref b, rfl, b, l, 3, rfl, B5, by decide, by decide, fun H6 d s6 B6 _ _ => ⟨rfl, ⟨(by show 6 ≤ sizeLine; decide), fun m hm => ?_⟩⟩⟩
    have el6 := s6 _ _ n3 (s5 _ _ n3 (s4 _ _ n3 el))
    have R6 := (R4.tups (s5.tups B4)).tups (s6.tups B5)
    refine k _ m lot ⟨t0, side, rs, al, sc, decide (d = 0)⟩ ((((s3.trans s4).trans s5).trans s6).trans (Stp.new hm)) (B6.new hm) z3 n3 m3 ⟨as, ?_, (Same.new hm) _ _ el6, R6.tups (Same.tups (Same.new hm))⟩ ⟨hz _ ht0, hside, hrs, lrs, hcl, hal, hsc, hop⟩ rfl
    rw [upd_same, dint]
end

/-! ### rows as data -/
def toD : V → PyData
  | .bl b => .bool b
  | .int i => .int i
  | .str z => .str z
  | _ => .none
def datR (rs : List (List V)) : PyData := .list (rs.map fun xs => .tuple (xs.map toD))
def okF (x : V) : Prop := flatV x = true ∧ ∀ z, x = .str z → StrK z
theorem dp_flat {K : PySem.W.Frag} {H : Hp} {x : V} (h : flatV x = true) : Dp K H x (toD x) := by
  cases x with
  | non => exact .non
  | bl b => exact .bl b
  | int i => exact .int i
  | str z => exact .str z
  | _ => cases h
theorem lay_flat {x : V} (h : okF x) : (toD x).canLay0 = true ∧ (toD x).depth = 0 := by
  cases x with
  | non => exact ⟨by simp [toD, PyData.canLay0], by simp [toD, PyData.depth]⟩
  | bl b => exact ⟨by simp [toD, PyData.canLay0], by simp [toD, PyData.depth]⟩
  | int i => exact ⟨by simp [toD, PyData.canLay0], by simp [toD, PyData.depth]⟩
  | str z =>
    refine ⟨?_, by simp [toD, PyData.depth]⟩
    have q := (h.2 z rfl).2
    simp only [toD, PyData.canLay0, PyData.strOk]
    simp
    exact fun i hi => q _ (by simp)
  | _ => cases h.1
theorem dpall_flat {K : PySem.W.Frag} {H : Hp} : ∀ {xs : List V}, (∀ x ∈ xs, flatV x = true) → DpAll K H xs (xs.map toD)
  | [], _ => .nil
  | x :: xs, h => .cons (dp_flat (h x (List.mem_cons_self ..))) (dpall_flat fun y m => h y (List.mem_cons_of_mem _ m))
theorem layall_flat : ∀ {xs : List V}, (∀ x ∈ xs, okF x) → PyData.canLayAll0 (xs.map toD) = true ∧ PyData.depthAll (xs.map toD) = 0
  | [], _ => ⟨by simp [PyData.canLayAll0], by simp [PyData.depthAll]⟩
  | x :: xs, h => by
    obtain ⟨a, b⟩ := lay_flat (h x (List.mem_cons_self ..))
    obtain ⟨c, d⟩ := layall_flat (xs := xs) fun y m => h y (List.mem_cons_of_mem _ m)
    exact ⟨by simp [PyData.canLayAll0, a, c], by simp [PyData.depthAll, b, d]⟩
theorem dp_rows {K : PySem.W.Frag} {H : Hp} {q : Addr} {as : List Addr} {rs : List (List V)} (e : SqL K H q (as.map V.ref)) (h : RowsIn H as rs) (hf : ∀ xs ∈ rs, ∀ x ∈ xs, flatV x = true) : Dp K H (.ref q) (datR rs) := by
  refine .lst e ?_
  clear e
  induction h with
  | nil => exact .nil
  | @cons a xs as rs r _ ih => exact .cons (.tup (SqT.of r) (dpall_flat (hf xs (List.mem_cons_self ..)))) (ih fun ys m => hf ys (List.mem_cons_of_mem _ m))
theorem shaped_rows {rs : List (List V)} (h : ∀ xs ∈ rs, ∀ x ∈ xs, okF x) : SeqAt.shaped (datR rs) = true := by
  have key : PyData.canLayAll0 (rs.map fun xs => PyData.tuple (xs.map toD)) = true ∧ PyData.depthAll (rs.map fun xs => PyData.tuple (xs.map toD)) ≤ 1 := by
    induction rs with
    | nil => exact ⟨by simp [PyData.canLayAll0], by simp [PyData.depthAll]⟩
    | cons xs rs ih =>
      obtain ⟨a, b⟩ := layall_flat (h xs (List.mem_cons_self ..))
      obtain ⟨c, d⟩ := ih fun ys m => h ys (List.mem_cons_of_mem _ m)
      refine ⟨by simp [PyData.canLayAll0, PyData.canLay0, a, c], ?_⟩
      simp only [List.map_cons, PyData.depthAll, PyData.depth, b]
      omega
  unfold SeqAt.shaped datR
  simp only [PyData.canLay0, PyData.depth, key.1, Bool.true_and]
  exact decide_eq_true (by have := key.2; omega)
theorem RowOf.okF {ts : List Str} {part : Str} {xs : List V} (hz : ∀ z ∈ ts, Nm z) (h : RowOf ts part xs) : ∀ x ∈ xs, okF x := by
  have q := (h.rwy.ok (K := default) (H := fun _ => none) (b := (0 : Nat)) hz).1 0
  exact q

open Lend LamX NdefX SupX
theorem flatK.non : flatK .non := ⟨rfl, fun z e => nomatch e⟩
theorem flatK.bl {k : Bool} : flatK (.bl k) := ⟨rfl, fun z e => nomatch e⟩
theorem flatK.int {k : Int} : flatK (.int k) := ⟨rfl, fun z e => nomatch e⟩
theorem flatK.str {z : Str} (h : StrK z) : flatK (.str z) := ⟨rfl, fun y e => by cases e; exact h⟩
theorem strK_lit {z : Str} (h : (decide (z.cps.size ≤ 100000) && z.cps.toList.all fun c => decide (c < 1114112)) = true) : StrK z := by
  rw [Bool.and_eq_true] at h
  exact ⟨of_decide_eq_true h.1, fun c m => of_decide_eq_true (List.all_eq_true.mp h.2 c m)⟩
local macro_rules | `(tactic| tm_at "flatK") => `(tactic| first
  | (refine flatK.str (strK_lit ?_); decide +kernel)
  | fail)
local macro_rules | `(tactic| tm_at "flatK") => `(tactic| first
  | exact flatK.non
  | exact flatK.bl
  | exact flatK.int
  | fail)
def AllRow (H : Hp) (N : Addr → Prop) (xs : List V) : Prop := ∀ x ∈ xs, ∃ o, RowV H N x o
theorem AllRow.pair {H : Hp} {N : Addr → Prop} : ∀ {xs : List V}, AllRow H N xs → ∃ os, Paired (RowV H N) xs os
  | [], _ => ⟨[], .nil⟩
  | x :: xs, h => by
    obtain ⟨o, ho⟩ := h x (.head _)
    obtain ⟨os, hos⟩ := AllRow.pair (xs := xs) fun y m => h y (.tail _ m)
    exact ⟨o :: os, .cons ho hos⟩
theorem AllRow.same {H H' : Hp} {N : Addr → Prop} {xs : List V} (s : Same H H') (h : AllRow H N xs) : AllRow H' N xs := fun x m => let ⟨o, ho⟩ := h x m; ⟨o, ho.same s⟩
theorem AllRow.but {H H' : Hp} {N : Addr → Prop} {q : Addr} {ys xs : List V} (s : Go.But q H H') (e : H q = some (.lst ys)) (n : ∀ a, N a → a ≠ q) (h : AllRow H N xs) : AllRow H' N xs := fun x m => let ⟨o, ho⟩ := h x m; ⟨o, ho.but s e n⟩
theorem AllRow.mono {H : Hp} {N M : Addr → Prop} {xs : List V} (n : ∀ a, N a → M a) (h : AllRow H N xs) : AllRow H M xs := fun x m => by
  obtain ⟨o, ho⟩ := h x m
  cases ho with
  | flat q => exact ⟨_, .flat q⟩
  | lst q k => exact ⟨_, .lst q (n _ k)⟩
  | tup q l f => exact ⟨_, .tup q l f⟩
theorem mem_cutV {xs : List V} {lo hi : Option Int} {x : V} (h : x ∈ cutV xs lo hi) : x ∈ xs := by
  unfold cutV at h
  exact List.mem_of_mem_drop (List.mem_of_mem_take h)
theorem len_cutV {xs : List V} {lo hi : Option Int} : (cutV xs lo hi).length ≤ xs.length := by
  unfold cutV
  rw [List.length_take, List.length_drop]
  omega
theorem Bag.lst {H : Hp} {b l : Addr} (h : Bag H b l) : ∃ ys, H b = some (.lst ys) := by
  obtain ⟨ns, i, r, m, n, h1, _⟩ := h
  exact ⟨_, h1⟩
section
variable {P : Program} {w : World} {K : PySem.W.Frag} {mg : Str → Option Value} {base : Heap} {Z : Fs}
def sp_law_wrong_rows : Sp := fun vs H Q _ => ∃ (b l m lot : Addr) (ts : List Str) (M : PM), vs = [.ref b, .ref m] ∧ Bag H b l ∧ ModQ H m lot M ∧ (∀ z ∈ ts, Nm z) ∧ M.Ok ts ∧ lot ≠ b ∧
  ∀ (H' : Hp) (v : V) (rr : Option (List (Option (List V)))), Stp b H H' → Bag H' b l → RowsV H' (fun a => a ≠ b ∧ H a = none) v rr → Q v H'
theorem ok_law_wrong_rows (T : Txt K w mg Z) : FnOk P w K mg base CX0 3 Z.a_law_wrong_rows Z.d_law_wrong_rows ["_law_bag_here", "_law_model"] sp_law_wrong_rows := by
  have G_law_draw := ok_law_draw (P := P) (base := base) T
  have G_law_of := ok_law_of (P := P) (base := base) T
  refine T.F_law_wrong_rows.ok sc_law_wrong_rows (fun vs H Q E h => ?_) (fun cdv A outer s H vs Q E hr h => ?_)
  · obtain ⟨b, l, m, lot, ts, M, rfl, _⟩ := h
    rfl
  · obtain ⟨b, l, m, lot, ts, M, rfl, B, hM, hz, ok, nlot, k⟩ := h
    refine ⟨_, (pss_cons (ps_par (i := 2) (j := 3) (by rfl) sc_law_wrong_rows.nd rfl rfl (by decide) rfl rfl (pa_cons (pe_ix (ix_tup : IxR _ (rIxT K)) (pv 1) pe_int (fun _ _ => rfl)) (pa_cons (pe_callTy Go.c_list (by rfl) T.n_list boot_list (pa_cons (pe_ix (ix_tup : IxR _ (rIxT K)) (pv 1) pe_int (fun _ _ => rfl)) pa_nil)) pa_nil)) (by rfl))
      (pss_cons (ps_par (i := 4) (j := 5) (by rfl) sc_law_wrong_rows.nd rfl rfl (by decide) rfl rfl (pa_cons (pe_call G_law_draw (hr.mono (by omega)) (by rfl) T.m_law_draw T.F_law_draw.kp T.b_law_draw .nil pass0 (pa_cons (pv 0) (pa_cons pe_int pa_nil))) (pa_cons (pe_call G_law_draw (hr.mono (by omega)) (by rfl) T.m_law_draw T.F_law_draw.kp T.b_law_draw .nil pass0 (pa_cons (pv 0) (pa_cons (pe_op op_add (pe_callB (Go.c_len : CallR _ _ (Go.RLen K)) (by rfl) T.n_len boot_len (pa_cons (pv 3) pa_nil)) pe_int) pa_nil))) pa_nil)) (by rfl))
      (C8.pss_cut (ps_set (i := 6) sc_law_wrong_rows.nd rfl (Or.inl rfl) (pe_call G_law_of (hr.mono (by omega)) (by rfl) T.m_law_of T.F_law_of.kp T.b_law_of .nil pass0 (pa_cons (pv 0) (pa_cons (pe_lst (pa_cons pe_non (pa_cons (pe_lst (pa_cons pe_str pa_nil)) (pa_cons (pe_tup (pa_cons pe_str (pa_cons pe_int pa_nil))) (pa_cons (pe_tup (pa_cons pe_str (pa_cons pe_str (pa_cons pe_int pa_nil)))) (pa_cons (pe_tup (pa_cons pe_str (pa_cons pe_str (pa_cons pe_int pa_nil)))) (pa_cons (pe_tup (pa_cons pe_str (pa_cons pe_int pa_nil))) (pa_cons pe_str (pa_cons pe_int (pa_cons (pe_tup (pa_cons pe_str (pa_cons (pe_un un_neg pe_int) pa_nil))) pa_nil)))))))))) pa_nil))))
      (C8.pss_cut (ps_set (i := 6) sc_law_wrong_rows.nd rfl (Or.inl rfl) (pe_call G_law_of (hr.mono (by omega)) (by rfl) T.m_law_of T.F_law_of.kp T.b_law_of .nil pass0 (pa_cons (pv 0) (pa_cons (pe_lst (pa_cons (pv 6) (pa_cons (pe_ifExp (pt_cmpR op_eq (pv 2) pe_str (nomark _)) (pe_tup (pa_cons pe_str (pa_cons pe_int pa_nil))) (pe_tup (pa_cons pe_str pa_nil))) (pa_cons (pe_ifExp (pt_cmpR op_eq (pv 2) pe_str (nomark _)) (pe_tup (pa_cons pe_str (pa_cons pe_str pa_nil))) (pe_tup (pa_cons pe_str pa_nil))) pa_nil)))) pa_nil))))
      (pss_cons (ps_if (pt_cmpR op_eq (pv 4) pe_int (nomark _)) (pss_one (ps_ret (pe_call G_law_of (hr.mono (by omega)) (by rfl) T.m_law_of T.F_law_of.kp T.b_law_of .nil pass0 (pa_cons (pv 0) (pa_cons (pe_lst (pa_cons pe_non (pa_cons pe_int (pa_cons pe_str (pa_cons pe_bl pa_nil))))) pa_nil))))) pss_nil)
      (pss_cons (ps_if (pt_cmpR op_eq (pv 4) pe_int (nomark _)) (pss_one (ps_ret (pe_op op_cat (pe_op op_cat (pe_slice (sl_list : SlR _ (rSlL K)) (pv 3) po_none (po_some (pv 5))) (pe_lst (pa_cons (pv 6) pa_nil))) (pe_slice (sl_list : SlR _ (rSlL K)) (pv 3) (po_some (pv 5)) po_none)))) pss_nil)
      (pss_cons (ps_if (pt_cmpR op_eq (pv 4) pe_int (nomark _)) (pss_one (ps_ret (pe_op op_rep (pe_lst (pa_cons (pv 6) pa_nil)) pe_int))) pss_nil)
      (pss_cons (ps_if (pt_cmpR op_eq (pv 4) pe_int (nomark _)) (pss_one (ps_ret (pe_ifExp (pt_cmpR (op_neD hr.units) (pv 3) (pe_lst pa_nil) (nomark _)) (pe_op op_cat (pe_op op_rep (pe_lst (pa_cons (pe_tup (pa_cons pe_str (pa_cons pe_int pa_nil))) pa_nil)) pe_int) (pe_slice (sl_list : SlR _ (rSlL K)) (pv 3) (po_some (pe_un un_neg pe_int)) po_none)) (pe_op op_rep (pe_lst (pa_cons (pe_tup (pa_cons pe_str (pa_cons pe_int pa_nil))) pa_nil)) pe_int)))) pss_nil)
      (pss_cons (ps_if (pt_cmpR op_eq (pv 4) pe_int (nomark _)) (pss_one (ps_ret (pe_ifExp (pt_cmpR (op_neD hr.units) (pv 3) (pe_lst pa_nil) (nomark _)) (pe_slice (sl_list : SlR _ (rSlL K)) (pv 3) po_none (po_some (pe_op op_sub (pe_callB (Go.c_len : CallR _ _ (Go.RLen K)) (by rfl) T.n_len boot_len (pa_cons (pv 3) pa_nil)) pe_int))) (pe_lst pa_nil)))) pss_nil)
      (pss_one (ps_ret (pe_ifExp (pt_cmpR op_eq (pv 4) pe_int (nomark _)) (pe_op op_cat (pe_op op_rep (pe_lst (pa_cons (pe_tup (pa_cons pe_str (pa_cons pe_int pa_nil))) pa_nil)) pe_int) (pe_slice (sl_list : SlR _ (rSlL K)) (pv 3) (po_some (pe_un un_neg pe_int)) po_none)) (pv 3))))))))))))), ?_⟩
    rw [show L2.start N_law_wrong_rows [V.ref b, V.ref m] = [some (V.ref b), some (V.ref m), none, none, none, none, none] from rfl]
    try dsimp only [cxOf, Cx.nox]
    obtain ⟨as, em, el, R⟩ := id hM
    have lm : (as.map V.ref).length ≤ 16 := by rw [List.length_map, R.len]; exact ok.ln
    have rows : ∀ (G : Hp), RowsIn G as M.rows → ∀ N, AllRow G N (as.map V.ref) := fun G hG N x hx => by
      obtain ⟨j, hj⟩ := List.mem_iff_getElem?.mp hx
      obtain ⟨a, xs, rfl, _, h2, h3⟩ := hG.get hj
      have hm := List.mem_of_getElem? h2
      have q := (ok.rw xs hm).rwy.ok (K := K) (H := H) (b := b) hz
      exact ⟨_, .tup h3 (by omega) fun y hy => q.1 0 y hy⟩
    tm_at "go"
    rename_i p G1 n1 s1 e1 nb nl G2 way s2 B2 w0 w1 G3 spot s3 B3 p0 p1
    have R3 : RowsIn G3 as M.rows := (((R.tups (Same.tups s1)).tups (s2.tups (B.same s1))).tups (s3.tups B2))
    have e3 : G3 p = some (.lst (as.map V.ref)) := by tm_at "hpO"
    have S3 : Stp b H G3 := by tm_at "but"
    refine Go.cut (fun σ' H' => ∃ x, σ' = [some (.ref b), some (.ref m), some (.str M.part), some (.ref p), some (.int way), some (.int spot), some x] ∧ Stp b H H' ∧ Bag H' b l ∧ H' p = some (.lst (as.map V.ref)) ∧ RowsIn H' as M.rows ∧ ∃ o, RowV H' (fun a => a ≠ b ∧ H a = none) x o) ?_ ?_
    · tm_at "go"
      rename_i G9 x9 u9 B9 hm
      have bu : Stp b G3 G9 := by tm_at "but"
      refine ⟨_, rfl, by tm_at "but", by tm_at "bag", by tm_at "hpO", R3.tups (bu.tups B3), ?_⟩
      have free : ∀ a, G3 a = none → H a = none := fun a h => S3.free B3 h
      refine (show ∀ y ∈ _, ∃ o, RowV G9 (fun a => a ≠ b ∧ H a = none) y o from ?_) _ hm
      clear k rows R3 R bu
      tm_at "all"
      all_goals first
        | (refine' ⟨_, RowV.flat ?a⟩; (case a => tm_at "flatK"))
        | (refine' ⟨_, RowV.lst ?a ⟨?b, free _ ?c⟩⟩; (case a => tm_at "hpO"); (case b => tm_at "ne"); (case c => tm_at "non"))
        | (refine' ⟨_, RowV.tup ?a ?b ?c⟩; (case a => tm_at "hpO"); (case b => exact Nat.le_of_ble_eq_true rfl); (case c => (tm_at "all" <;> tm_at "flatK")))
    · rintro σ' G4 ⟨x, rfl, S4, B4, e4, R4, o, hx⟩
      clear e3 R3 S3 B3 B2 s3 s2 e1 s1
      obtain ⟨yb, eyb⟩ := B4.lst
      refine Go.cut (fun σ' H' => ∃ x, σ' = [some (.ref b), some (.ref m), some (.str M.part), some (.ref p), some (.int way), some (.int spot), some x] ∧ Stp b H H' ∧ Bag H' b l ∧ H' p = some (.lst (as.map V.ref)) ∧ RowsIn H' as M.rows ∧ ∃ o, RowV H' (fun a => a ≠ b ∧ H a = none) x o) ?_ ?_
      · clear k rows
        tm_at "go"
        all_goals
          rename_i G9 x9 u9 B9 hm
          have bu : Stp b G4 G9 := by tm_at "but"
          refine ⟨_, rfl, S4.trans bu, by tm_at "bag", bu _ _ nb e4, R4.tups (bu.tups B4), ?_⟩
          have hx' := hx.but bu eyb (fun a h => h.1)
          refine (show ∀ y ∈ _, ∃ o, RowV G9 (fun a => a ≠ b ∧ H a = none) y o from ?_) _ hm
          clear R4 R bu S4
          refine memc ⟨_, hx'⟩ ?_
          tm_at "all"
          all_goals (refine' ⟨_, RowV.tup ?a ?b ?c⟩; (case a => tm_at "hpO"); (case b => exact Nat.le_of_ble_eq_true rfl); (case c => (tm_at "all" <;> tm_at "flatK")))
      · rintro σ' G5 ⟨x, rfl, S5, B5, e5, R5, o, hx⟩
        clear S4 B4 e4 R4 eyb
        have fin : ∀ (G : Hp) (q : Addr) (xs : List V), Stp b H G → Bag G b l → G q = some (.lst xs) → q ≠ b → H q = none → xs.length ≤ 100 → AllRow G (fun a => a ≠ b ∧ H a = none) xs → Q (.ref q) G := fun G q xs S BG e n z ll A => by
          obtain ⟨os, hos⟩ := A.pair
          exact k G _ (some os) S BG (.lst e ⟨n, z⟩ ll hos)
        have z5 : ∀ (G : Hp) (q : Addr), Same G5 G → G q = none → H q = none := fun G q s n => S5.free B5 (Go.freeS s n)
        have cut : ∀ (G : Hp) (lo hi : Option Int), Same G5 G → AllRow G (fun a => a ≠ b ∧ H a = none) (cutV (as.map V.ref) lo hi) := fun G lo hi s y m => rows G (R5.tups (Same.tups s)) _ y (mem_cutV m)
        have hfl : ∀ ys ∈ M.rows, ∀ y ∈ ys, okF y := fun ys m => (ok.rw ys m).okF hz
        have one : ∀ (G : Hp) (q : Addr) (ys : List V), (∀ y ∈ ys, flatK y) → ys.length ≤ 100000 → G q = some (.tup ys) → ∃ o, RowV G (fun a => a ≠ b ∧ H a = none) (.ref q) o := fun G q ys f ll e => ⟨_, .tup e ll f⟩
        tm_at "go"
        · rename_i G9 x9 u9 B9 hm
          refine k G9 x9 none (S5.trans (by tm_at "but")) B9 (.no ?_)
          refine (show ∀ y ∈ _, flatK y from ?_) _ hm
          tm_at "all" <;> tm_at "flatK"
        · rename_i _ _ q1 G6 n6 s6 e6 q1b q1l q2 G7 n7 s7 e7 q2b q2l
          have l1 := len_cutV (xs := as.map V.ref) (lo := none) (hi := some spot)
          have l2 := len_cutV (xs := as.map V.ref) (lo := some spot) (hi := none)
          refine Go.cat (by tm_at "hpO") (by tm_at "hpO") (Go.le_line (by simp only [List.length_singleton]; omega)) rfl ?_
          tm_at "go"
          rename_i q3 G8 n8 s8 e8 q3b q3l q4 G9 n9 s9 e9 q4b q4l
          refine Go.cat (by tm_at "hpO") (by tm_at "hpO") (Go.le_line (by simp only [List.length_append, List.length_singleton]; omega)) rfl ?_
          tm_at "go"
          rename_i q5 Ga na sa ea q5b q5l
          have sG : Same G5 Ga := by tm_at "same"
          refine fin Ga q5 _ (S5.trans (Go.sb sG)) (by tm_at "bag") ea q5b (z5 G9 q5 (by tm_at "same") na) (by simp only [List.length_append, List.length_singleton]; omega) fun y m => ?_
          rcases List.mem_append.mp m with m | m
          · rcases List.mem_append.mp m with m | m
            · exact cut _ _ _ sG y m
            · rw [List.mem_singleton.mp m]
              exact ⟨o, hx.same sG⟩
          · exact cut _ _ _ sG y m
        · rename_i _ _ _ q1 G6 n6 s6 e6 q1b q1l q2 G7 n7 s7 e7 q2b q2l
          have sG : Same G5 G7 := by tm_at "same"
          refine fin G7 q2 _ (S5.trans (Go.sb sG)) (by tm_at "bag") e7 q2b (z5 G6 q2 (by tm_at "same") n7) (Nat.le_of_ble_eq_true rfl) fun y m => ?_
          have e : y = x := by simpa using m
          rw [e]
          exact ⟨o, hx.same sG⟩
        · rename_i _ _ _ _ q1 G6 n6 s6 e6 q1b q1l
          refine Go.neD (dp_rows (SqL.of (s6 _ _ e5)) (R5.tups (Same.tups s6)) fun ys m y h => (hfl ys m y h).1) (.lst (SqL.of e6) .nil) (shaped_rows hfl) (by decide +kernel) ?_
          tm_at "go"
          · rename_i _ q2 G7 n7 s7 e7 q2b q2l q3 G8 n8 s8 e8 q3b q3l q4 G9 n9 s9 e9 q4b q4l
            have eq2 : G9 q2 = some (.tup [.str "room", .int 1]) := by tm_at "hpO"
            have sG : Same G5 G9 := by tm_at "same"
            refine fin G9 q4 _ (S5.trans (Go.sb sG)) (by tm_at "bag") e9 q4b (z5 G8 q4 (by tm_at "same") n9) (Nat.le_of_ble_eq_true rfl) fun y m => ?_
            have e : y = .ref q2 := by simpa using m
            rw [e]
            exact one _ q2 [.str "room", .int 1] (by tm_at "all" <;> tm_at "flatK") (Nat.le_of_ble_eq_true rfl) eq2
          · rename_i _ q2 G7 n7 s7 e7 q2b q2l q3 G8 n8 s8 e8 q3b q3l q4 G9 n9 s9 e9 q4b q4l q5 Ga na sa ea q5b q5l
            have l1 := len_cutV (xs := as.map V.ref) (lo := some (-1)) (hi := none)
            refine Go.cat (by tm_at "hpO") (by tm_at "hpO") (Go.le_line (by simp; omega)) rfl ?_
            tm_at "go"
            rename_i q6 Gb nb' sb eb q6b q6l
            have eq2 : Gb q2 = some (.tup [.str "room", .int 1]) := by tm_at "hpO"
            have sG : Same G5 Gb := by tm_at "same"
            refine fin Gb q6 _ (S5.trans (Go.sb sG)) (by tm_at "bag") eb q6b (z5 Ga q6 (by tm_at "same") nb') (by simp; omega) fun y m => ?_
            rcases List.mem_append.mp m with m | m
            · have e : y = .ref q2 := by simpa using m
              rw [e]
              exact one _ q2 [.str "room", .int 1] (by tm_at "all" <;> tm_at "flatK") (Nat.le_of_ble_eq_true rfl) eq2
            · exact cut _ _ _ sG y m
        · rename_i _ _ _ _ _ q1 G6 n6 s6 e6 q1b q1l
          refine Go.neD (dp_rows (SqL.of (s6 _ _ e5)) (R5.tups (Same.tups s6)) fun ys m y h => (hfl ys m y h).1) (.lst (SqL.of e6) .nil) (shaped_rows hfl) (by decide +kernel) ?_
          tm_at "go"
          · rename_i _ q2 G7 n7 s7 e7 q2b q2l
            have sG : Same G5 G7 := by tm_at "same"
            exact fin G7 q2 _ (S5.trans (Go.sb sG)) (by tm_at "bag") e7 q2b (z5 G6 q2 (by tm_at "same") n7) (Nat.le_of_ble_eq_true rfl) fun y m => nomatch m
          · rename_i _ q2 G7 n7 s7 e7 q2b q2l
            have sG : Same G5 G7 := by tm_at "same"
            have l1 := len_cutV (xs := as.map V.ref) (lo := none) (hi := some (((as.map V.ref).length : Int) - 1))
            exact fin G7 q2 _ (S5.trans (Go.sb sG)) (by tm_at "bag") e7 q2b (z5 G6 q2 (by tm_at "same") n7) (by omega) (cut _ _ _ sG)
        · rename_i _ _ _ _ _ _ q2 G7 n7 s7 e7 q2b q2l q3 G8 n8 s8 e8 q3b q3l q4 G9 n9 s9 e9 q4b q4l q5 Ga na sa ea q5b q5l
          have l1 := len_cutV (xs := as.map V.ref) (lo := some (-1)) (hi := none)
          refine Go.cat (by tm_at "hpO") (by tm_at "hpO") (Go.le_line (by simp; omega)) rfl ?_
          tm_at "go"
          rename_i q6 Gb nb' sb eb q6b q6l
          have eq2 : Gb q2 = some (.tup [.str "room", .int 2]) := by tm_at "hpO"
          have sG : Same G5 Gb := by tm_at "same"
          refine fin Gb q6 _ (S5.trans (Go.sb sG)) (by tm_at "bag") eb q6b (z5 Ga q6 (by tm_at "same") nb') (by simp; omega) fun y m => ?_
          rcases List.mem_append.mp m with m | m
          · have e : y = .ref q2 := by simpa using m
            rw [e]
            exact one _ q2 [.str "room", .int 2] (by tm_at "all" <;> tm_at "flatK") (Nat.le_of_ble_eq_true rfl) eq2
          · exact cut _ _ _ sG y m
        · exact fin G5 p _ S5 B5 e5 nb n1 (by omega) (rows _ R5 _)
end

/-! ### data, in the library's view -/
mutual
theorem Dt.dp {K : PySem.W.Frag} {H : Hp} {b : Addr} : ∀ {v : V} {d : PyData}, Dt K H b v d → Dp K H v d
  | _, _, .non => .non
  | _, _, .bl k => .bl k
  | _, _, .int i => .int i
  | _, _, .str _ => .str _
  | _, _, .lst h _ _ r => .lst h (DtA.dp r)
  | _, _, .tup h _ _ r => .tup h (DtA.dp r)
theorem DtA.dp {K : PySem.W.Frag} {H : Hp} {b : Addr} : ∀ {v : List V} {d : List PyData}, DtA K H b v d → DpAll K H v d
  | _, _, .nil => .nil
  | _, _, .cons h r => .cons (Dt.dp h) (DtA.dp r)
end
mutual
theorem Dt.lay {K : PySem.W.Frag} {H : Hp} {b : Addr} : ∀ {v : V} {d : PyData}, Dt K H b v d → d.canLay0 = true
  | _, _, .non => rfl
  | _, _, .bl k => rfl
  | _, _, .int i => rfl
  | _, _, .str (z := z) h => by
    show (z.cps.all fun c => decide (c < 1114112)) = true
    rw [← Array.all_toList, List.all_eq_true]
    exact fun c hc => decide_eq_true (h.2 c hc)
  | _, _, .lst _ _ _ r => DtA.lay r
  | _, _, .tup _ _ _ r => DtA.lay r
theorem DtA.lay {K : PySem.W.Frag} {H : Hp} {b : Addr} : ∀ {v : List V} {d : List PyData}, DtA K H b v d → PyData.canLayAll0 d = true
  | _, _, .nil => rfl
  | _, _, .cons h r => by
    unfold PyData.canLayAll0
    rw [Dt.lay h, DtA.lay r]
    rfl
end
theorem shp {d : PyData} (h : d.canLay0 = true) (k : decide (d.depth ≤ 64) = true) : SeqAt.shaped d = true := by
  unfold SeqAt.shaped
  rw [h, k]
  rfl

open Lend LamX NdefX SupX
theorem Go.glst {K : PySem.W.Frag} {σ : L2.St} {H : Hp} {n : Nat} {t : TGs} {a : Addr} {xs : List V} {Q : L2.St → Hp → Prop} (h : SqL K H a xs) (l : xs.length = n) (q : t xs σ H Q) : gLst K n t (.ref a) σ H Q := ⟨a, xs, rfl, h, l, q⟩
theorem Go.ifT {σ : L2.St} {H : Hp} {t u v : TT} {Q : Bool → Hp → Prop} (q : t σ H fun c H1 => Go.Way c (u σ H1 Q) (v σ H1 Q)) : IfX.tIfT t u v σ H Q := by
  unfold IfX.tIfT
  simpa only [Go.way_if] using q
theorem Go.ninD {K : PySem.W.Frag} {H : Hp} {x y : V} {d : PyData} {ds : List PyData} {c : Bool} {Q : VK} (h1 : Dp K H x d) (h2 : Dp K H y (.list ds)) (s1 : SeqAt.shaped d = true) (s2 : SeqAt.shaped (.list ds) = true) (e : (ds.any fun z => PyData.eqv z d) = c) (q : Q (.bl (!c)) H) : rNotInD K x y H Q := by
  subst e
  exact ⟨d, ds, h1, h2, s1, s2, q⟩
theorem inLs {K : PySem.W.Frag} {neg : Bool} {H : Hp} {z : Str} {p : Addr} {l : List Str} {b : Bool} {Q : VK} (h : SqL K H p (l.map V.str)) (e : l.contains z = b) (q : Q (.bl (if neg = true then !b else b)) H) : rIn K neg (.str z) (.ref p) H Q :=
  ⟨p, _, rfl, .inl h, rfl, by rw [List.all_eq_true]; intro x hx; obtain ⟨y, _, rfl⟩ := List.mem_map.mp hx; rfl, by rw [inV_str, e]; exact q⟩
local macro_rules | `(tactic| tm_at "sp") => `(tactic| first
  | ((with_reducible refine' Go.glst ?h ?l ?_); (case h => tm_at "hpL"); (case l => rfl))
  | with_reducible refine Go.ifT ?_
  | fail)
local macro_rules | `(tactic| tm_at "idx") => `(tactic| first
  | assumption
  | fail)
mutual
theorem Dt.depth {K : PySem.W.Frag} {H : Hp} {b : Addr} : ∀ {v : V} {d : PyData}, Dt K H b v d → d.depth = dep d
  | _, _, .non => rfl
  | _, _, .bl k => rfl
  | _, _, .int i => rfl
  | _, _, .str h => rfl
  | _, _, .lst _ _ _ r => by simp only [PyData.depth, dep, DtA.depth r]
  | _, _, .tup _ _ _ r => by simp only [PyData.depth, dep, DtA.depth r]
theorem DtA.depth {K : PySem.W.Frag} {H : Hp} {b : Addr} : ∀ {vs : List V} {ds : List PyData}, DtA K H b vs ds → PyData.depthAll ds = depA ds
  | _, _, .nil => rfl
  | _, _, .cons h r => by simp only [PyData.depthAll, depA, Dt.depth h, DtA.depth r]
end
theorem shp1 {K : PySem.W.Frag} {H : Hp} {b : Addr} {v : V} {d : PyData} (h : Dt K H b v d) (e : dep d ≤ 1) : SeqAt.shaped d = true := shp h.lay (decide_eq_true (by rw [h.depth]; omega))
def k0 : Ks := ⟨0, 0, 0, 0, 0, 0, 0⟩
theorem beq_comm' {a b : Str} : (a == b) = decide (b = a) := by
  rw [Bool.eq_iff_iff, decide_eq_true_iff]
  exact ⟨fun h => (eq_of_beq h).symm, fun h => h ▸ beq_self_eq_true _⟩
theorem in_part {d : PyData} : ([PyData.str "code", .str "data"].any fun z => PyData.eqv z d) = partD d := by
  cases d <;> simp [PyData.eqv, partD, partsL, beq_comm']
theorem in_align {v : V} {d : PyData} {K : PySem.W.Frag} {H : Hp} {b : Addr} (h : Dt K H b v d) (nb : ∀ k, d ≠ .bool k) : ([PyData.int 1, .int 2, .int 4, .int 8, .int 16].any fun z => PyData.eqv z d) = alV v := by
  cases h with
  | bl k => exact absurd rfl (nb k)
  | int i =>
    have e : ∀ a b : Int, (a == b) = decide (b = a) := fun a b => by
      rw [Bool.eq_iff_iff, decide_eq_true_iff]
      exact ⟨fun h => (eq_of_beq h).symm, fun h => h ▸ beq_self_eq_true _⟩
    simp only [List.any_cons, List.any_nil, PyData.eqv, e, alV, numV, alignsL, inV, eqV, Bool.or_false]
    rw [Bool.eq_iff_iff]
    simp
    omega
  | non => simp [PyData.eqv, alV, numV]
  | str _ => simp [PyData.eqv, alV, numV]
  | lst _ _ _ _ => simp [PyData.eqv, alV, numV]
  | tup _ _ _ _ => simp [PyData.eqv, alV, numV]
def inSc : PyData → Bool
  | .str z => scopesL.contains z
  | _ => false
theorem in_scope {d : PyData} : ([PyData.str "local", .str "export", .str "open", .str "weak"].any fun z => PyData.eqv z d) = inSc d := by
  cases d <;> simp [PyData.eqv, inSc, scopesL, beq_comm']
section
variable {P : Program} {w : World} {K : PySem.W.Frag} {mg : Str → Option Value} {base : Heap} {Z : Fs}
theorem i_is_title {H : Hp} {Q : VK} {E : XK} {b : Addr} {v : V} {d : PyData} (h : Dt K H b v d) (q : ∀ H' : Hp, Same H H' → Q (.bl (nmV v)) H') : sp_law_is_title K [v] H Q E := ⟨v, b, dep d, rfl, h.okv (Nat.le_refl _), q⟩
def sp_law_due (K : PySem.W.Frag) : Sp := fun vs H Q _ => ∃ (g b : Addr) (n p r a s : V) (dn dp da ds : PyData) (N : Addr → Prop) (rr : Option (List (Option (List V)))), vs = [.ref g] ∧ SqL K H g [n, p, r, a, s] ∧ Dt K H b n dn ∧ Dt K H b p dp ∧ Dt K H b a da ∧ Dt K H b s ds ∧ dep dn ≤ 1 ∧ dep dp ≤ 1 ∧ dep da ≤ 1 ∧ dep ds ≤ 1 ∧ RowsV H N r rr ∧
  ∀ (H' : Hp) (t : Addr), Same H H' → H t = none → WhyAt (wy (pieceE k0 n p a s dp ds rr)) H' t → Q (.ref t) H'
theorem ok_law_due (T : Txt K w mg Z) : FnOk P w K mg base CX0 4 Z.a_law_due Z.d_law_due ["_law_given"] (sp_law_due K) := by
  have G_law_is_title : FnOk P w K mg base CX0 1 Z.a_law_is_title Z.d_law_is_title ["_law_thing"] (sp_law_is_title K) := ok_law_is_title T
  have G_law_code_so : FnOk P w K mg base CX0 2 Z.a_law_code_so Z.d_law_code_so ["_law_thing"] (sp_is_code_row K) := ok_law_code_so T
  have G_law_data_so : FnOk P w K mg base CX0 2 Z.a_law_data_so Z.d_law_data_so ["_law_thing"] (sp_is_data_row K) := ok_law_data_so T
  refine T.F_law_due.ok sc_law_due (fun vs H Q E h => ?_) (fun cdv A outer s H vs Q E hr h => ?_)
  · obtain ⟨g, b, n, p, r, a, s, dn, dp, da, ds, N, rr, rfl, _⟩ := h
    rfl
  · obtain ⟨g, b, n, p, r, a, s', dn, dp, da, ds, N, rr, rfl, hg, hn, hp, ha, hs, en, ep, ea, es, hR, k⟩ := h
    refine ⟨_, (pss_cons (ps_asg (pv 0) (pg_lst (by rfl) (pgs_cons (pg_name (i := 1) sc_law_due.nd rfl (Or.inl rfl)) (pgs_cons (pg_name (i := 2) sc_law_due.nd rfl (Or.inl rfl)) (pgs_cons (pg_name (i := 3) sc_law_due.nd rfl (Or.inl rfl)) (pgs_cons (pg_name (i := 4) sc_law_due.nd rfl (Or.inl rfl)) (pgs_cons (pg_name (i := 5) sc_law_due.nd rfl (Or.inl rfl)) pgs_nil)))))))
      (pss_cons (ps_if (pt_not (pt_val (pe_call G_law_is_title (hr.mono (by omega)) (by rfl) T.m_law_is_title T.F_law_is_title.kp T.b_law_is_title .nil pass0 (pa_cons (pv 1) pa_nil)))) (pss_one (ps_ret (pe_tup (pa_cons pe_str (pa_cons (pe_tup (pa_cons (pv 1) pa_nil)) pa_nil))))) pss_nil)
      (pss_cons (ps_if (pt_cmpR (op_notInD (IfX.hr65 hr)) (pv 2) (pe_lst (pa_cons pe_str (pa_cons pe_str pa_nil))) (by rfl)) (pss_one (ps_ret (pe_tup (pa_cons pe_str (pa_cons (pe_tup (pa_cons (pv 2) pa_nil)) pa_nil))))) pss_nil)
      (pss_cons (ps_if (pt_not (pt_val (pe_callB (call_isiT : CallR _ _ (rIsiT K)) (by rfl) T.n_isinstance boot_isinstance (pa_cons (pv 3) (pa_cons (pe_tup (pa_cons (pe_bltn (v := .ty "list") (by rfl) T.n_list boot_list rfl) (pa_cons (pe_bltn (v := .ty "tuple") (by rfl) T.n_tuple boot_tuple rfl) pa_nil))) pa_nil))))) (pss_one (ps_ret (pe_tup (pa_cons pe_str (pa_cons (pe_tup (pa_cons (pe_un un_neg pe_int) pa_nil)) pa_nil))))) pss_nil)
      (pss_cons (ps_if (pt_cmpR op_gt (pe_callB (Go.c_len : CallR _ _ (Go.RLen K)) (by rfl) T.n_len boot_len (pa_cons (pv 3) pa_nil)) pe_int (nomark _)) (pss_one (ps_ret (pe_tup (pa_cons pe_str (pa_cons (pe_tup (pa_cons pe_int pa_nil)) pa_nil))))) pss_nil)
      (pss_cons (ps_for PassesOwn.never rfl (pi_range1 (by rfl) T.n_range (pa_cons (pe_callB (Go.c_len : CallR _ _ (Go.RLen K)) (by rfl) T.n_len boot_len (pa_cons (pv 3) pa_nil)) pa_nil)) (pg_name (i := 6) sc_law_due.nd rfl (Or.inl rfl)) (pss_one (ps_if (pt_not (IfX.pt_ifExp (pt_cmpR op_eq (pv 2) pe_str (nomark _)) (pt_val (pe_call G_law_code_so (hr.mono (by omega)) (by rfl) T.m_law_code_so T.F_law_code_so.kp T.b_law_code_so .nil pass0 (pa_cons (pe_ix (ix_list : IxR _ (rIxL K)) (pv 3) (pv 6) (fun _ _ => rfl)) pa_nil))) (pt_val (pe_call G_law_data_so (hr.mono (by omega)) (by rfl) T.m_law_data_so T.F_law_data_so.kp T.b_law_data_so .nil pass0 (pa_cons (pe_ix (ix_list : IxR _ (rIxL K)) (pv 3) (pv 6) (fun _ _ => rfl)) pa_nil))))) (pss_one (ps_ret (pe_tup (pa_cons pe_str (pa_cons (pe_tup (pa_cons (pv 6) pa_nil)) pa_nil))))) pss_nil)))
      (C8.pss_cut (ps_if (PW.pt (pw_and (pt_cmpR op_eq (pv 2) pe_str (nomark _)) (pw_and1 (PW.pt (pw_or (pt_cmpR op_eq (pe_callB (Go.c_len : CallR _ _ (Go.RLen K)) (by rfl) T.n_len boot_len (pa_cons (pv 3) pa_nil)) pe_int (nomark _)) (pw_or1 (pt_cmpR op_notIn_seq (pe_ix (ix_tup : IxR _ (rIxT K)) (pe_ix (ix_list : IxR _ (rIxL K)) (pv 3) (pe_un un_neg pe_int) (fun _ _ => rfl)) pe_int (fun _ _ => rfl)) (pe_lst (pa_cons pe_str (pa_cons pe_str (pa_cons pe_str pa_nil)))) (by rfl)))))))) (pss_one (ps_ret (pe_tup (pa_cons pe_str (pa_cons (pe_tup pa_nil) pa_nil))))) pss_nil)
      (C8.pss_cut (ps_if (PW.pt (pw_or (pt_val (pe_callB (call_isi : CallR _ _ (rIsi K)) (by rfl) T.n_isinstance boot_isinstance (pa_cons (pv 4) (pa_cons (pe_bltn (v := .ty "bool") (by rfl) T.n_bool boot_bool rfl) pa_nil)))) (pw_or1 (pt_cmpR (op_notInD (IfX.hr65 hr)) (pv 4) (pe_lst (pa_cons pe_int (pa_cons pe_int (pa_cons pe_int (pa_cons pe_int (pa_cons pe_int pa_nil)))))) (by rfl))))) (pss_one (ps_ret (pe_tup (pa_cons pe_str (pa_cons (pe_tup (pa_cons (pv 4) pa_nil)) pa_nil))))) pss_nil)
      (pss_cons (ps_if (PW.pt (pw_or (pt_cmpR (op_notInD (IfX.hr65 hr)) (pv 5) (pe_lst (pa_cons pe_str (pa_cons pe_str (pa_cons pe_str (pa_cons pe_str pa_nil))))) (by rfl)) (pw_or1 (PW.pt (pw_and (pt_cmpR op_eq (pv 5) pe_str (nomark _)) (pw_and1 (pt_cmpR op_eq (pv 2) pe_str (nomark _)))))))) (pss_one (ps_ret (pe_tup (pa_cons pe_str (pa_cons (pe_tup (pa_cons (pv 5) pa_nil)) pa_nil))))) pss_nil)
      (pss_one (ps_ret (pe_tup (pa_cons pe_str (pa_cons pe_non pa_nil)))))))))))))), ?_⟩
    rw [show L2.start N_law_due [V.ref g] = [some (V.ref g), none, none, none, none, none, none] from rfl]
    try dsimp only [cxOf, Cx.nox]
    have ret : ∀ (e : EKind) (xs : List V), pieceE k0 n p a s' dp ds rr = some (e, xs) → ∀ (G : Hp) (t u : Addr), Same H G → H t = none → G t = some (.tup [.str e.code, .ref u]) → G u = some (.tup xs) → Q (.ref t) G := fun e xs he G t u s1 n1 h1 h2 => by
      refine k G t s1 n1 ?_
      rw [he]
      exact ⟨u, h1, h2⟩
    have ret0 : pieceE k0 n p a s' dp ds rr = none → ∀ (G : Hp) (t : Addr), Same H G → H t = none → G t = some (.tup [.str "", .non]) → Q (.ref t) G := fun he G t s1 n1 h1 => by
      refine k G t s1 n1 ?_
      rw [he]
      exact h1
    tm_at "go"
    refine i_is_title hn fun H1 s1 => ?_
    tm_at "go"
    · rename_i q1 p1 G1 n1 t1 e1
      refine Go.ninD (Dt.dp (show Dt K G1 b p dp by tm_at "dt")) (.lst (by tm_at "hpL") (.cons (.str _) (.cons (.str _) .nil))) (shp1 hp ep) (by decide +kernel) in_part ?_
      tm_at "go"
      · rename_i q2 p2 G2 n2 t2 e2
        obtain ⟨pz, rfl⟩ : ∃ z, p = .str z := by
          rcases part_two q2 with rfl | rfl
          · cases hp
            exact ⟨_, rfl⟩
          · cases hp
            exact ⟨_, rfl⟩
        obtain rfl : dp = .str pz := by
          cases hp
          rfl
        have two : pz = "code" ∨ pz = "data" := by
          rcases part_two q2 with h | h
          · cases h; exact .inl rfl
          · cases h; exact .inr rfl
        cases hR with
        | no hf =>
          cases r with
          | non => tm_at "go"; exact ret _ _ (pieceE3 q1 q2 rfl) _ _ _ (by tm_at "same") (by tm_at "non") (by tm_at "hpO") (by tm_at "hpO")
          | bl c => tm_at "go"; exact ret _ _ (pieceE3 q1 q2 rfl) _ _ _ (by tm_at "same") (by tm_at "non") (by tm_at "hpO") (by tm_at "hpO")
          | int c => tm_at "go"; exact ret _ _ (pieceE3 q1 q2 rfl) _ _ _ (by tm_at "same") (by tm_at "non") (by tm_at "hpO") (by tm_at "hpO")
          | str c => tm_at "go"; exact ret _ _ (pieceE3 q1 q2 rfl) _ _ _ (by tm_at "same") (by tm_at "non") (by tm_at "hpO") (by tm_at "hpO")
          | _ => cases hf.1
        | @lst ra xs os er nA hl hpr =>
          have lo : xs.length = os.length := Paired.length hpr
          tm_at "go"
          · have e3 : rowsE k0 pz (some os) = some (kMn 0, [.int 16]) := by
              rw [rowsE_some]
              exact if_pos (by omega)
            exact ret _ _ (pieceE3 q1 q2 e3) _ _ _ (by tm_at "same") (by tm_at "non") (by tm_at "hpO") (by tm_at "hpO")
          · rename_i small
            have S2 : Same H G2 := by tm_at "same"
            clear e2 t2 n2 e1 t1 n1 s1
            refine Go.for_w walk_range (fun i σ H' => ∃ y6, σ = [some (.ref g), some n, some (.str pz), some (.ref ra), some a, some s', y6] ∧ Same H H' ∧ ∀ j o, j < i → os[j]? = some o → rowO pz o = true) ⟨_, rfl, S2, fun j o hj _ => absurd hj (Nat.not_lt_zero _)⟩ (fun _ _ _ _ _ => trivial) ?_ ?_
            · clear S2
              rintro i v σ H4 H5 hi ⟨y6, rfl, sG, hj⟩ ⟨rfl, rfl⟩
              have hi' : i < xs.length := by omega
              have hat : atI xs (0 + (i : Int)) = some xs[i] := by
                rw [show 0 + (i : Int) = (i : Int) by omega]
                exact atI_nat (List.getElem?_eq_getElem hi')
              obtain ⟨o, ho, ro⟩ := Paired.get2 hpr (List.getElem?_eq_getElem hi')
              have er4 : H5 ra = some (.lst xs) := sG _ _ er
              have ro4 := ro.same sG
              have bad : rowO pz o = false → rowsE k0 pz (some os) = some (kRw 0, [.int (0 + (i : Int))]) := fun q => by
                rw [rowsE_some, if_neg (by omega)]
                have z : os.findIdx? (fun o => !rowO pz o) = some i := findIdx_some ho (by rw [q]; rfl) fun j y hj' hy' => by rw [hj j y hj' hy']; rfl
                rw [z, show 0 + (i : Int) = (i : Int) by omega]
                rfl
              have good : rowO pz o = true → ∀ j o', j < i + 1 → os[j]? = some o' → rowO pz o' = true := fun q j o' hj' ho' => by
                rcases Nat.lt_succ_iff_lt_or_eq.mp hj' with h | rfl
                · exact hj j o' h ho'
                · rw [ho] at ho'
                  cases ho'
                  exact q
              tm_at "go"
              · rename_i c
                have cO : rowO pz o = codeO o := if_pos c
                refine i_code_row ro4 fun G5 s5 => ?_
                tm_at "go"
                · exact ⟨_, rfl, by tm_at "same", good (cO.trans ‹_›)⟩
                · exact ret _ _ (pieceE3 q1 q2 (bad (cO.trans ‹_›))) _ _ _ (by tm_at "same") (by tm_at "non") (by tm_at "hpO") (by tm_at "hpO")
              · rename_i c
                have cO : rowO pz o = dataO o := if_neg c
                refine i_data_row ro4 fun G5 s5 => ?_
                tm_at "go"
                · exact ⟨_, rfl, by tm_at "same", good (cO.trans ‹_›)⟩
                · exact ret _ _ (pieceE3 q1 q2 (bad (cO.trans ‹_›))) _ _ _ (by tm_at "same") (by tm_at "non") (by tm_at "hpO") (by tm_at "hpO")
            · clear S2
              rintro σ H4 ⟨y6, rfl, sG, hj⟩
              have er4 : H4 ra = some (.lst xs) := sG _ _ er
              have e3 : rowsE k0 pz (some os) = none := by
                rw [rowsE_some, if_neg (by omega)]
                have z : os.findIdx? (fun o => !rowO pz o) = none := findIdx_none fun j y hj' hy' => by rw [hj j y (by omega) hy']; rfl
                rw [z]
              refine Go.cut (fun σ' H' => σ' = [some (.ref g), some n, some (.str pz), some (.ref ra), some a, some s', y6] ∧ Same H H' ∧ closeE pz (some os) = true) ?_ ?_
              · by_cases c : pz = "code"
                · have nd : ¬ pz = "data" := by rw [c]; decide +kernel
                  have ct : decide (pz = "code") = true := decide_eq_true c
                  by_cases h0 : 0 < os.length
                  · obtain ⟨x, o, hx, ho, ro⟩ := Paired.last hpr h0
                    have co : codeO o = true := by
                      have z := List.mem_of_getLast? ho
                      obtain ⟨j, hjj⟩ := List.mem_iff_getElem?.mp z
                      have q := hj j o (by have := (List.getElem?_eq_some_iff.mp hjj).1; omega) hjj
                      exact (if_pos c : rowO pz o = codeO o).symm.trans q
                    obtain ⟨u, r, rfl⟩ := codeO_hd co
                    have ce : closeE pz (some os) = closS.contains u := by
                      show (decide (pz = "data") || (decide (0 < os.length) && closO (os.getLast?.getD none))) = _
                      rw [ho, decide_eq_false nd, decide_eq_true h0]
                      rfl
                    cases ro with
                    | @tup a' _ ea' la fa =>
                      have ea4 : H4 a' = some (.tup (.str u :: r)) := sG _ _ ea'
                      tm_at "go"
                      refine inLs (l := closS) (by tm_at "hpL") rfl ?_
                      tm_at "go"
                      · rename_i q _ _ _ _ _ _ _ _ _ _
                        have z : closS.contains u = false := by simpa using q
                        exact ret _ _ (pieceE4 q1 q2 e3 (ce.trans z)) _ _ _ (by tm_at "same") (by tm_at "non") (by tm_at "hpO") (by tm_at "hpO")
                      · rename_i q
                        have z : closS.contains u = true := by simpa using q
                        exact ⟨by tm_at "same", ce.trans z⟩
                  · have ce : closeE pz (some os) = false := by
                      show (decide (pz = "data") || (decide (0 < os.length) && closO (os.getLast?.getD none))) = _
                      rw [decide_eq_false nd, decide_eq_false h0]
                      rfl
                    tm_at "go"
                    exact ret _ _ (pieceE4 q1 q2 e3 ce) _ _ _ (by tm_at "same") (by tm_at "non") (by tm_at "hpO") (by tm_at "hpO")
                · have cf : decide (pz = "code") = false := decide_eq_false c
                  have ce : closeE pz (some os) = true := by
                    show (decide (pz = "data") || _) = _
                    rw [decide_eq_true (two.resolve_left c)]
                    rfl
                  tm_at "go"
                  exact ⟨by tm_at "same", ce⟩
              · clear er4 sG
                rintro σ' H5 ⟨rfl, sG, q4⟩
                refine Go.cut (fun σ' H' => σ' = [some (.ref g), some n, some (.str pz), some (.ref ra), some a, some s', y6] ∧ Same H H' ∧ alV a = true) ?_ ?_
                · have al : ∀ (G : Hp) (t u : Addr), alV a = false → Same H G → H t = none → G t = some (.tup [.str "InvalidAlignment", .ref u]) → G u = some (.tup [a]) → Q (.ref t) G := fun G t u e s n h1 h2 => ret _ _ (pieceE5 q1 q2 e3 q4 e) G t u s n h1 h2
                  have nin : ∀ (G : Hp) (l : Addr), Same H G → G l = some (.lst [.int 1, .int 2, .int 4, .int 8, .int 16]) → (∀ k, da ≠ .bool k) → ∀ {Q' : VK}, Q' (.bl (!alV a)) G → rNotInD K a (.ref l) G Q' := fun G l s e nb Q' q => Go.ninD (Dt.dp (ha.same s)) (.lst (SqL.of e) (.cons (.int _) (.cons (.int _) (.cons (.int _) (.cons (.int _) (.cons (.int _) .nil)))))) (shp1 (ha.same s) ea) (by decide +kernel) (in_align ha nb) q
                  cases ha with
                  | bl c =>
                    tm_at "go"
                    exact al _ _ _ rfl (by tm_at "same") (by tm_at "non") (by tm_at "hpO") (by tm_at "hpO")
                  | non =>
                    tm_at "go"
                    refine nin _ _ (by tm_at "same") (by tm_at "hpO") (fun k z => nomatch z) ?_
                    tm_at "go"
                    exact al _ _ _ rfl (by tm_at "same") (by tm_at "non") (by tm_at "hpO") (by tm_at "hpO")
                  | int c =>
                    tm_at "go"
                    refine nin _ _ (by tm_at "same") (by tm_at "hpO") (fun k z => nomatch z) ?_
                    tm_at "go"
                    · rename_i q
                      exact ⟨by tm_at "same", q⟩
                    · rename_i q _ _ _ _ _ _ _ _ _ _
                      exact al _ _ _ q (by tm_at "same") (by tm_at "non") (by tm_at "hpO") (by tm_at "hpO")
                  | str c =>
                    tm_at "go"
                    refine nin _ _ (by tm_at "same") (by tm_at "hpO") (fun k z => nomatch z) ?_
                    tm_at "go"
                    exact al _ _ _ rfl (by tm_at "same") (by tm_at "non") (by tm_at "hpO") (by tm_at "hpO")
                  | lst u1 u2 u3 u4 =>
                    tm_at "go"
                    refine nin _ _ (by tm_at "same") (by tm_at "hpO") (fun k z => nomatch z) ?_
                    tm_at "go"
                    exact al _ _ _ rfl (by tm_at "same") (by tm_at "non") (by tm_at "hpO") (by tm_at "hpO")
                  | tup u1 u2 u3 u4 =>
                    tm_at "go"
                    refine nin _ _ (by tm_at "same") (by tm_at "hpO") (fun k z => nomatch z) ?_
                    tm_at "go"
                    exact al _ _ _ rfl (by tm_at "same") (by tm_at "non") (by tm_at "hpO") (by tm_at "hpO")
                · clear sG
                  rintro σ' H5 ⟨rfl, sG, q5⟩
                  have sc : ∀ (G : Hp) (t u : Addr), scopeD pz ds = false → Same H G → H t = none → G t = some (.tup [.str "InvalidScope", .ref u]) → G u = some (.tup [s']) → Q (.ref t) G := fun G t u e s n h1 h2 => ret _ _ (pieceE6 q1 q2 e3 q4 q5 e) G t u s n h1 h2
                  have nin : ∀ (G : Hp) (l : Addr), Same H G → G l = some (.lst [.str "local", .str "export", .str "open", .str "weak"]) → ∀ {c : Bool} {Q' : VK}, inSc ds = c → Q' (.bl (!c)) G → rNotInD K s' (.ref l) G Q' := fun G l s e c Q' ec q => Go.ninD (Dt.dp (hs.same s)) (.lst (SqL.of e) (.cons (.str _) (.cons (.str _) (.cons (.str _) (.cons (.str _) .nil))))) (shp1 (hs.same s) es) (by decide +kernel) (in_scope.trans ec) q
                  cases hs with
                    | @str z hz =>
                      cases hc : scopesL.contains z with
                      | true =>
                        tm_at "go"
                        refine nin _ _ (by tm_at "same") (by tm_at "hpO") (c := true) hc ?_
                        have sd : scopeD pz (.str z) = (decide (pz = "code") || !decide (z = "open")) := by
                          show (scopesL.contains z && _) = _
                          rw [hc]
                          rfl
                        tm_at "go"
                        · rename_i zo pd _ _ _ _ _ _ _ _ _ _
                          have sf : scopeD pz (.str z) = false := by
                            rw [sd, zo, pd]
                            decide +kernel
                          exact sc _ _ _ sf (by tm_at "same") (by tm_at "non") (by tm_at "hpO") (by tm_at "hpO")
                        · rename_i zo pd _ _ _ _ _
                          have st : scopeD pz (.str z) = true := by
                            rw [sd, decide_eq_true (two.resolve_right pd)]
                            rfl
                          exact ret0 (pieceE7 q1 q2 e3 q4 q5 st) _ _ (by tm_at "same") (by tm_at "non") (by tm_at "hpO")
                        · rename_i zo _ _ _ _ _
                          have st : scopeD pz (.str z) = true := by
                            rw [sd, decide_eq_false zo]
                            simp
                          exact ret0 (pieceE7 q1 q2 e3 q4 q5 st) _ _ (by tm_at "same") (by tm_at "non") (by tm_at "hpO")
                      | false =>
                        have sd : scopeD pz (.str z) = false := by
                          show (scopesL.contains z && _) = _
                          rw [hc]
                          rfl
                        tm_at "go"
                        refine nin _ _ (by tm_at "same") (by tm_at "hpO") (c := false) hc ?_
                        tm_at "go"
                        exact sc _ _ _ sd (by tm_at "same") (by tm_at "non") (by tm_at "hpO") (by tm_at "hpO")
                    | non =>
                      tm_at "go"
                      refine nin _ _ (by tm_at "same") (by tm_at "hpO") (c := false) rfl ?_
                      tm_at "go"
                      exact sc _ _ _ rfl (by tm_at "same") (by tm_at "non") (by tm_at "hpO") (by tm_at "hpO")
                    | bl c =>
                      tm_at "go"
                      refine nin _ _ (by tm_at "same") (by tm_at "hpO") (c := false) rfl ?_
                      tm_at "go"
                      exact sc _ _ _ rfl (by tm_at "same") (by tm_at "non") (by tm_at "hpO") (by tm_at "hpO")
                    | int c =>
                      tm_at "go"
                      refine nin _ _ (by tm_at "same") (by tm_at "hpO") (c := false) rfl ?_
                      tm_at "go"
                      exact sc _ _ _ rfl (by tm_at "same") (by tm_at "non") (by tm_at "hpO") (by tm_at "hpO")
                    | lst u1 u2 u3 u4 =>
                      tm_at "go"
                      refine nin _ _ (by tm_at "same") (by tm_at "hpO") (c := false) rfl ?_
                      tm_at "go"
                      exact sc _ _ _ rfl (by tm_at "same") (by tm_at "non") (by tm_at "hpO") (by tm_at "hpO")
                    | tup u1 u2 u3 u4 =>
                      tm_at "go"
                      refine nin _ _ (by tm_at "same") (by tm_at "hpO") (c := false) rfl ?_
                      tm_at "go"
                      exact sc _ _ _ rfl (by tm_at "same") (by tm_at "non") (by tm_at "hpO") (by tm_at "hpO")
      · exact ret _ _ (pieceE2 q1 ‹_›) _ _ _ (by tm_at "same") (by tm_at "non") (by tm_at "hpO") (by tm_at "hpO")
    · exact ret _ _ (pieceE1 ‹_›) _ _ _ (by tm_at "same") (by tm_at "non") (by tm_at "hpO") (by tm_at "hpO")
end

open Lend LamX NdefX SupX
section
variable {P : Program} {w : World} {K : PySem.W.Frag} {mg : Str → Option Value} {base : Heap} {Z : Fs}
theorem ok_law_field {k : Ks} (T : Txt K w mg Z) (L : Lg P K mg k) : HotP.FnHP P w K mg base C8.CX0 1 Z.a_law_field Z.d_law_field ["_law_e"] (sp_law_field K k.l) := by
  obtain ⟨oc, od, kV, doc, pm, an, cdv, ct, osl, e, lk, hcd⟩ := T.F_law_field.ex
  rw [e] at lk ⊢
  refine HotP.fnHP_of lk hcd sc_law_field (fun p vs H Q E h => ?_) (fun A outer s H vs Q E p hot hr h => ?_)
  · obtain ⟨kd, _, xs, d, _, rfl, _⟩ := h
    rfl
  · obtain ⟨kd, hk, xs, d, hl, rfl, he, kq⟩ := h
    rcases List.mem_cons.mp hk with rfl | hk
    · obtain ⟨f0, fd0, EX⟩ := L.n
      have n2 : PySem.W.findIn K (.ref k.n) "code" = some none := EX.ok.code
      obtain ⟨x, rfl⟩ : ∃ x, xs = [x] := by
        match xs, hl with
        | [x], _ => exact ⟨x, rfl⟩
      have n1 : PySem.W.findIn K (.ref k.n) "value" = some none := EX.ok.attr _ (.head _)
      have he : ErrP K H p k.n d [("code", .str "InvalidName"), ("value", x)] := he
      clear EX
      refine ⟨_, (pss_cons (ps_if (pt_cmpR (op_in_seq : OpR _ _ (rIn K false)) (HotP.pe_pinf (p := p) List.mem_cons_self (pv 0)) (pe_lst (pa_cons pe_str (pa_cons pe_str (pa_cons pe_str (pa_cons pe_str (pa_cons pe_str pa_nil)))))) (by rfl)) (pss_one (ps_ret (pe_tup (pa_cons (HotP.pe_pinf (p := p) List.mem_cons_self (pv 0)) pa_nil)))) pss_nil)
      (pss_cons (ps_if (pt_cmpR (op_in_seq : OpR _ _ (rIn K false)) (HotP.pe_pinf (p := p) List.mem_cons_self (pv 0)) (pe_lst (pa_cons pe_str (pa_cons pe_str pa_nil))) (by rfl)) (pss_one (ps_ret (pe_tup (pa_cons (HotP.pe_pinf (p := p) List.mem_cons_self (pv 0)) pa_nil)))) pss_nil)
      (pss_cons (ps_if (pt_cmpR op_eq (HotP.pe_pinf (p := p) List.mem_cons_self (pv 0)) pe_str (nomark _)) (pss_one (ps_ret (pe_tup (pa_cons (HotP.pe_pinf (p := p) List.mem_cons_self (pv 0)) (pa_cons (HotP.pe_pinf (p := p) List.mem_cons_self (pv 0)) (pa_cons (HotP.pe_pinf (p := p) List.mem_cons_self (pv 0)) pa_nil)))))) pss_nil)
      (pss_cons (ps_if (pt_cmpR op_eq (HotP.pe_pinf (p := p) List.mem_cons_self (pv 0)) pe_str (nomark _)) (pss_one (ps_ret (pe_tup (pa_cons (HotP.pe_pinf (p := p) List.mem_cons_self (pv 0)) (pa_cons (HotP.pe_pinf (p := p) List.mem_cons_self (pv 0)) pa_nil))))) pss_nil)
      (pss_cons (ps_if (pt_cmpR op_eq (HotP.pe_pinf (p := p) List.mem_cons_self (pv 0)) pe_str (nomark _)) (pss_one (ps_ret (pe_tup (pa_cons (HotP.pe_pinf (p := p) List.mem_cons_self (pv 0)) pa_nil)))) pss_nil)
      (pss_cons (ps_if (pt_cmpR op_eq (HotP.pe_pinf (p := p) List.mem_cons_self (pv 0)) pe_str (nomark _)) (pss_one (ps_ret (pe_tup (pa_cons (HotP.pe_pinf (p := p) List.mem_cons_self (pv 0)) pa_nil)))) pss_nil)
      (pss_cons (ps_if (pt_cmpR op_eq (HotP.pe_pinf (p := p) List.mem_cons_self (pv 0)) pe_str (nomark _)) (pss_one (ps_ret (pe_tup (pa_cons (HotP.pe_pinf (p := p) List.mem_cons_self (pv 0)) pa_nil)))) pss_nil)
      (pss_one (ps_ret (pe_ifExp (pt_cmpR op_eq (HotP.pe_pinf (p := p) List.mem_cons_self (pv 0)) pe_str (nomark _)) (pe_tup pa_nil) (pe_tup (pa_cons (HotP.pe_pinf (p := p) List.mem_cons_self (pv 0)) pa_nil)))))))))))), ?_⟩
      rw [show L2.start N_law_field [V.ref p.1] = [some (V.ref p.1)] from rfl]
      try dsimp only [cxOf, Cx.nox]
      tm_at "go"
      all_goals first
        | exact kq _ _ (by tm_at "same") (by tm_at "non") (by assumption)
        | exact absurd ‹Str.ofString "InvalidName" = _› (by decide +kernel)
    rcases List.mem_cons.mp hk with rfl | hk
    · obtain ⟨f0, fd0, EX⟩ := L.p
      have n2 : PySem.W.findIn K (.ref k.p) "code" = some none := EX.ok.code
      obtain ⟨x, rfl⟩ : ∃ x, xs = [x] := by
        match xs, hl with
        | [x], _ => exact ⟨x, rfl⟩
      have n1 : PySem.W.findIn K (.ref k.p) "value" = some none := EX.ok.attr _ (.head _)
      have he : ErrP K H p k.p d [("code", .str "InvalidPart"), ("value", x)] := he
      clear EX
      refine ⟨_, (pss_cons (ps_if (pt_cmpR (op_in_seq : OpR _ _ (rIn K false)) (HotP.pe_pinf (p := p) List.mem_cons_self (pv 0)) (pe_lst (pa_cons pe_str (pa_cons pe_str (pa_cons pe_str (pa_cons pe_str (pa_cons pe_str pa_nil)))))) (by rfl)) (pss_one (ps_ret (pe_tup (pa_cons (HotP.pe_pinf (p := p) List.mem_cons_self (pv 0)) pa_nil)))) pss_nil)
      (pss_cons (ps_if (pt_cmpR (op_in_seq : OpR _ _ (rIn K false)) (HotP.pe_pinf (p := p) List.mem_cons_self (pv 0)) (pe_lst (pa_cons pe_str (pa_cons pe_str pa_nil))) (by rfl)) (pss_one (ps_ret (pe_tup (pa_cons (HotP.pe_pinf (p := p) List.mem_cons_self (pv 0)) pa_nil)))) pss_nil)
      (pss_cons (ps_if (pt_cmpR op_eq (HotP.pe_pinf (p := p) List.mem_cons_self (pv 0)) pe_str (nomark _)) (pss_one (ps_ret (pe_tup (pa_cons (HotP.pe_pinf (p := p) List.mem_cons_self (pv 0)) (pa_cons (HotP.pe_pinf (p := p) List.mem_cons_self (pv 0)) (pa_cons (HotP.pe_pinf (p := p) List.mem_cons_self (pv 0)) pa_nil)))))) pss_nil)
      (pss_cons (ps_if (pt_cmpR op_eq (HotP.pe_pinf (p := p) List.mem_cons_self (pv 0)) pe_str (nomark _)) (pss_one (ps_ret (pe_tup (pa_cons (HotP.pe_pinf (p := p) List.mem_cons_self (pv 0)) (pa_cons (HotP.pe_pinf (p := p) List.mem_cons_self (pv 0)) pa_nil))))) pss_nil)
      (pss_cons (ps_if (pt_cmpR op_eq (HotP.pe_pinf (p := p) List.mem_cons_self (pv 0)) pe_str (nomark _)) (pss_one (ps_ret (pe_tup (pa_cons (HotP.pe_pinf (p := p) List.mem_cons_self (pv 0)) pa_nil)))) pss_nil)
      (pss_cons (ps_if (pt_cmpR op_eq (HotP.pe_pinf (p := p) List.mem_cons_self (pv 0)) pe_str (nomark _)) (pss_one (ps_ret (pe_tup (pa_cons (HotP.pe_pinf (p := p) List.mem_cons_self (pv 0)) pa_nil)))) pss_nil)
      (pss_cons (ps_if (pt_cmpR op_eq (HotP.pe_pinf (p := p) List.mem_cons_self (pv 0)) pe_str (nomark _)) (pss_one (ps_ret (pe_tup (pa_cons (HotP.pe_pinf (p := p) List.mem_cons_self (pv 0)) pa_nil)))) pss_nil)
      (pss_one (ps_ret (pe_ifExp (pt_cmpR op_eq (HotP.pe_pinf (p := p) List.mem_cons_self (pv 0)) pe_str (nomark _)) (pe_tup pa_nil) (pe_tup (pa_cons (HotP.pe_pinf (p := p) List.mem_cons_self (pv 0)) pa_nil)))))))))))), ?_⟩
      rw [show L2.start N_law_field [V.ref p.1] = [some (V.ref p.1)] from rfl]
      try dsimp only [cxOf, Cx.nox]
      tm_at "go"
      all_goals first
        | exact kq _ _ (by tm_at "same") (by tm_at "non") (by assumption)
        | exact absurd ‹Str.ofString "InvalidPart" = _› (by decide +kernel)
    rcases List.mem_cons.mp hk with rfl | hk
    · obtain ⟨f0, fd0, EX⟩ := L.a
      have n2 : PySem.W.findIn K (.ref k.a) "code" = some none := EX.ok.code
      obtain ⟨x, rfl⟩ : ∃ x, xs = [x] := by
        match xs, hl with
        | [x], _ => exact ⟨x, rfl⟩
      have n1 : PySem.W.findIn K (.ref k.a) "value" = some none := EX.ok.attr _ (.head _)
      have he : ErrP K H p k.a d [("code", .str "InvalidAlignment"), ("value", x)] := he
      clear EX
      refine ⟨_, (pss_cons (ps_if (pt_cmpR (op_in_seq : OpR _ _ (rIn K false)) (HotP.pe_pinf (p := p) List.mem_cons_self (pv 0)) (pe_lst (pa_cons pe_str (pa_cons pe_str (pa_cons pe_str (pa_cons pe_str (pa_cons pe_str pa_nil)))))) (by rfl)) (pss_one (ps_ret (pe_tup (pa_cons (HotP.pe_pinf (p := p) List.mem_cons_self (pv 0)) pa_nil)))) pss_nil)
      (pss_cons (ps_if (pt_cmpR (op_in_seq : OpR _ _ (rIn K false)) (HotP.pe_pinf (p := p) List.mem_cons_self (pv 0)) (pe_lst (pa_cons pe_str (pa_cons pe_str pa_nil))) (by rfl)) (pss_one (ps_ret (pe_tup (pa_cons (HotP.pe_pinf (p := p) List.mem_cons_self (pv 0)) pa_nil)))) pss_nil)
      (pss_cons (ps_if (pt_cmpR op_eq (HotP.pe_pinf (p := p) List.mem_cons_self (pv 0)) pe_str (nomark _)) (pss_one (ps_ret (pe_tup (pa_cons (HotP.pe_pinf (p := p) List.mem_cons_self (pv 0)) (pa_cons (HotP.pe_pinf (p := p) List.mem_cons_self (pv 0)) (pa_cons (HotP.pe_pinf (p := p) List.mem_cons_self (pv 0)) pa_nil)))))) pss_nil)
      (pss_cons (ps_if (pt_cmpR op_eq (HotP.pe_pinf (p := p) List.mem_cons_self (pv 0)) pe_str (nomark _)) (pss_one (ps_ret (pe_tup (pa_cons (HotP.pe_pinf (p := p) List.mem_cons_self (pv 0)) (pa_cons (HotP.pe_pinf (p := p) List.mem_cons_self (pv 0)) pa_nil))))) pss_nil)
      (pss_cons (ps_if (pt_cmpR op_eq (HotP.pe_pinf (p := p) List.mem_cons_self (pv 0)) pe_str (nomark _)) (pss_one (ps_ret (pe_tup (pa_cons (HotP.pe_pinf (p := p) List.mem_cons_self (pv 0)) pa_nil)))) pss_nil)
      (pss_cons (ps_if (pt_cmpR op_eq (HotP.pe_pinf (p := p) List.mem_cons_self (pv 0)) pe_str (nomark _)) (pss_one (ps_ret (pe_tup (pa_cons (HotP.pe_pinf (p := p) List.mem_cons_self (pv 0)) pa_nil)))) pss_nil)
      (pss_cons (ps_if (pt_cmpR op_eq (HotP.pe_pinf (p := p) List.mem_cons_self (pv 0)) pe_str (nomark _)) (pss_one (ps_ret (pe_tup (pa_cons (HotP.pe_pinf (p := p) List.mem_cons_self (pv 0)) pa_nil)))) pss_nil)
      (pss_one (ps_ret (pe_ifExp (pt_cmpR op_eq (HotP.pe_pinf (p := p) List.mem_cons_self (pv 0)) pe_str (nomark _)) (pe_tup pa_nil) (pe_tup (pa_cons (HotP.pe_pinf (p := p) List.mem_cons_self (pv 0)) pa_nil)))))))))))), ?_⟩
      rw [show L2.start N_law_field [V.ref p.1] = [some (V.ref p.1)] from rfl]
      try dsimp only [cxOf, Cx.nox]
      tm_at "go"
      all_goals first
        | exact kq _ _ (by tm_at "same") (by tm_at "non") (by assumption)
        | exact absurd ‹Str.ofString "InvalidAlignment" = _› (by decide +kernel)
    rcases List.mem_cons.mp hk with rfl | hk
    · obtain ⟨f0, fd0, EX⟩ := L.s
      have n2 : PySem.W.findIn K (.ref k.s) "code" = some none := EX.ok.code
      obtain ⟨x, rfl⟩ : ∃ x, xs = [x] := by
        match xs, hl with
        | [x], _ => exact ⟨x, rfl⟩
      have n1 : PySem.W.findIn K (.ref k.s) "value" = some none := EX.ok.attr _ (.head _)
      have he : ErrP K H p k.s d [("code", .str "InvalidScope"), ("value", x)] := he
      clear EX
      refine ⟨_, (pss_cons (ps_if (pt_cmpR (op_in_seq : OpR _ _ (rIn K false)) (HotP.pe_pinf (p := p) List.mem_cons_self (pv 0)) (pe_lst (pa_cons pe_str (pa_cons pe_str (pa_cons pe_str (pa_cons pe_str (pa_cons pe_str pa_nil)))))) (by rfl)) (pss_one (ps_ret (pe_tup (pa_cons (HotP.pe_pinf (p := p) List.mem_cons_self (pv 0)) pa_nil)))) pss_nil)
      (pss_cons (ps_if (pt_cmpR (op_in_seq : OpR _ _ (rIn K false)) (HotP.pe_pinf (p := p) List.mem_cons_self (pv 0)) (pe_lst (pa_cons pe_str (pa_cons pe_str pa_nil))) (by rfl)) (pss_one (ps_ret (pe_tup (pa_cons (HotP.pe_pinf (p := p) List.mem_cons_self (pv 0)) pa_nil)))) pss_nil)
      (pss_cons (ps_if (pt_cmpR op_eq (HotP.pe_pinf (p := p) List.mem_cons_self (pv 0)) pe_str (nomark _)) (pss_one (ps_ret (pe_tup (pa_cons (HotP.pe_pinf (p := p) List.mem_cons_self (pv 0)) (pa_cons (HotP.pe_pinf (p := p) List.mem_cons_self (pv 0)) (pa_cons (HotP.pe_pinf (p := p) List.mem_cons_self (pv 0)) pa_nil)))))) pss_nil)
      (pss_cons (ps_if (pt_cmpR op_eq (HotP.pe_pinf (p := p) List.mem_cons_self (pv 0)) pe_str (nomark _)) (pss_one (ps_ret (pe_tup (pa_cons (HotP.pe_pinf (p := p) List.mem_cons_self (pv 0)) (pa_cons (HotP.pe_pinf (p := p) List.mem_cons_self (pv 0)) pa_nil))))) pss_nil)
      (pss_cons (ps_if (pt_cmpR op_eq (HotP.pe_pinf (p := p) List.mem_cons_self (pv 0)) pe_str (nomark _)) (pss_one (ps_ret (pe_tup (pa_cons (HotP.pe_pinf (p := p) List.mem_cons_self (pv 0)) pa_nil)))) pss_nil)
      (pss_cons (ps_if (pt_cmpR op_eq (HotP.pe_pinf (p := p) List.mem_cons_self (pv 0)) pe_str (nomark _)) (pss_one (ps_ret (pe_tup (pa_cons (HotP.pe_pinf (p := p) List.mem_cons_self (pv 0)) pa_nil)))) pss_nil)
      (pss_cons (ps_if (pt_cmpR op_eq (HotP.pe_pinf (p := p) List.mem_cons_self (pv 0)) pe_str (nomark _)) (pss_one (ps_ret (pe_tup (pa_cons (HotP.pe_pinf (p := p) List.mem_cons_self (pv 0)) pa_nil)))) pss_nil)
      (pss_one (ps_ret (pe_ifExp (pt_cmpR op_eq (HotP.pe_pinf (p := p) List.mem_cons_self (pv 0)) pe_str (nomark _)) (pe_tup pa_nil) (pe_tup (pa_cons (HotP.pe_pinf (p := p) List.mem_cons_self (pv 0)) pa_nil)))))))))))), ?_⟩
      rw [show L2.start N_law_field [V.ref p.1] = [some (V.ref p.1)] from rfl]
      try dsimp only [cxOf, Cx.nox]
      tm_at "go"
      all_goals first
        | exact kq _ _ (by tm_at "same") (by tm_at "non") (by assumption)
        | exact absurd ‹Str.ofString "InvalidScope" = _› (by decide +kernel)
    rcases List.mem_cons.mp hk with rfl | hk
    · obtain ⟨f0, fd0, EX⟩ := L.r
      have n2 : PySem.W.findIn K (.ref k.r) "code" = some none := EX.ok.code
      obtain ⟨x, rfl⟩ : ∃ x, xs = [x] := by
        match xs, hl with
        | [x], _ => exact ⟨x, rfl⟩
      have n1 : PySem.W.findIn K (.ref k.r) "at" = some none := EX.ok.attr _ (.head _)
      have he : ErrP K H p k.r d [("code", .str "InvalidRow"), ("at", x)] := he
      clear EX
      refine ⟨_, (pss_cons (ps_if (pt_cmpR (op_in_seq : OpR _ _ (rIn K false)) (HotP.pe_pinf (p := p) List.mem_cons_self (pv 0)) (pe_lst (pa_cons pe_str (pa_cons pe_str (pa_cons pe_str (pa_cons pe_str (pa_cons pe_str pa_nil)))))) (by rfl)) (pss_one (ps_ret (pe_tup (pa_cons (HotP.pe_pinf (p := p) List.mem_cons_self (pv 0)) pa_nil)))) pss_nil)
      (pss_cons (ps_if (pt_cmpR (op_in_seq : OpR _ _ (rIn K false)) (HotP.pe_pinf (p := p) List.mem_cons_self (pv 0)) (pe_lst (pa_cons pe_str (pa_cons pe_str pa_nil))) (by rfl)) (pss_one (ps_ret (pe_tup (pa_cons (HotP.pe_pinf (p := p) List.mem_cons_self (pv 0)) pa_nil)))) pss_nil)
      (pss_cons (ps_if (pt_cmpR op_eq (HotP.pe_pinf (p := p) List.mem_cons_self (pv 0)) pe_str (nomark _)) (pss_one (ps_ret (pe_tup (pa_cons (HotP.pe_pinf (p := p) List.mem_cons_self (pv 0)) (pa_cons (HotP.pe_pinf (p := p) List.mem_cons_self (pv 0)) (pa_cons (HotP.pe_pinf (p := p) List.mem_cons_self (pv 0)) pa_nil)))))) pss_nil)
      (pss_cons (ps_if (pt_cmpR op_eq (HotP.pe_pinf (p := p) List.mem_cons_self (pv 0)) pe_str (nomark _)) (pss_one (ps_ret (pe_tup (pa_cons (HotP.pe_pinf (p := p) List.mem_cons_self (pv 0)) (pa_cons (HotP.pe_pinf (p := p) List.mem_cons_self (pv 0)) pa_nil))))) pss_nil)
      (pss_cons (ps_if (pt_cmpR op_eq (HotP.pe_pinf (p := p) List.mem_cons_self (pv 0)) pe_str (nomark _)) (pss_one (ps_ret (pe_tup (pa_cons (HotP.pe_pinf (p := p) List.mem_cons_self (pv 0)) pa_nil)))) pss_nil)
      (pss_cons (ps_if (pt_cmpR op_eq (HotP.pe_pinf (p := p) List.mem_cons_self (pv 0)) pe_str (nomark _)) (pss_one (ps_ret (pe_tup (pa_cons (HotP.pe_pinf (p := p) List.mem_cons_self (pv 0)) pa_nil)))) pss_nil)
      (pss_cons (ps_if (pt_cmpR op_eq (HotP.pe_pinf (p := p) List.mem_cons_self (pv 0)) pe_str (nomark _)) (pss_one (ps_ret (pe_tup (pa_cons (HotP.pe_pinf (p := p) List.mem_cons_self (pv 0)) pa_nil)))) pss_nil)
      (pss_one (ps_ret (pe_ifExp (pt_cmpR op_eq (HotP.pe_pinf (p := p) List.mem_cons_self (pv 0)) pe_str (nomark _)) (pe_tup pa_nil) (pe_tup (pa_cons (HotP.pe_pinf (p := p) List.mem_cons_self (pv 0)) pa_nil)))))))))))), ?_⟩
      rw [show L2.start N_law_field [V.ref p.1] = [some (V.ref p.1)] from rfl]
      try dsimp only [cxOf, Cx.nox]
      tm_at "go"
      refine inLst (b := true) (by tm_at "hpL") rfl (by decide +kernel) ?_
      tm_at "go"
      all_goals first
        | exact kq _ _ (by tm_at "same") (by tm_at "non") (by assumption)
        | exact absurd ‹Str.ofString "InvalidRow" = _› (by decide +kernel)
    rcases List.mem_cons.mp hk with rfl | hk
    · obtain ⟨f0, fd0, EX⟩ := L.m
      have n2 : PySem.W.findIn K (.ref k.m) "code" = some none := EX.ok.code
      obtain ⟨x, rfl⟩ : ∃ x, xs = [x] := by
        match xs, hl with
        | [x], _ => exact ⟨x, rfl⟩
      have n1 : PySem.W.findIn K (.ref k.m) "most" = some none := EX.ok.attr _ (.head _)
      have he : ErrP K H p k.m d [("code", .str "TooMany"), ("most", x)] := he
      clear EX
      refine ⟨_, (pss_cons (ps_if (pt_cmpR (op_in_seq : OpR _ _ (rIn K false)) (HotP.pe_pinf (p := p) List.mem_cons_self (pv 0)) (pe_lst (pa_cons pe_str (pa_cons pe_str (pa_cons pe_str (pa_cons pe_str (pa_cons pe_str pa_nil)))))) (by rfl)) (pss_one (ps_ret (pe_tup (pa_cons (HotP.pe_pinf (p := p) List.mem_cons_self (pv 0)) pa_nil)))) pss_nil)
      (pss_cons (ps_if (pt_cmpR (op_in_seq : OpR _ _ (rIn K false)) (HotP.pe_pinf (p := p) List.mem_cons_self (pv 0)) (pe_lst (pa_cons pe_str (pa_cons pe_str pa_nil))) (by rfl)) (pss_one (ps_ret (pe_tup (pa_cons (HotP.pe_pinf (p := p) List.mem_cons_self (pv 0)) pa_nil)))) pss_nil)
      (pss_cons (ps_if (pt_cmpR op_eq (HotP.pe_pinf (p := p) List.mem_cons_self (pv 0)) pe_str (nomark _)) (pss_one (ps_ret (pe_tup (pa_cons (HotP.pe_pinf (p := p) List.mem_cons_self (pv 0)) (pa_cons (HotP.pe_pinf (p := p) List.mem_cons_self (pv 0)) (pa_cons (HotP.pe_pinf (p := p) List.mem_cons_self (pv 0)) pa_nil)))))) pss_nil)
      (pss_cons (ps_if (pt_cmpR op_eq (HotP.pe_pinf (p := p) List.mem_cons_self (pv 0)) pe_str (nomark _)) (pss_one (ps_ret (pe_tup (pa_cons (HotP.pe_pinf (p := p) List.mem_cons_self (pv 0)) (pa_cons (HotP.pe_pinf (p := p) List.mem_cons_self (pv 0)) pa_nil))))) pss_nil)
      (pss_cons (ps_if (pt_cmpR op_eq (HotP.pe_pinf (p := p) List.mem_cons_self (pv 0)) pe_str (nomark _)) (pss_one (ps_ret (pe_tup (pa_cons (HotP.pe_pinf (p := p) List.mem_cons_self (pv 0)) pa_nil)))) pss_nil)
      (pss_cons (ps_if (pt_cmpR op_eq (HotP.pe_pinf (p := p) List.mem_cons_self (pv 0)) pe_str (nomark _)) (pss_one (ps_ret (pe_tup (pa_cons (HotP.pe_pinf (p := p) List.mem_cons_self (pv 0)) pa_nil)))) pss_nil)
      (pss_cons (ps_if (pt_cmpR op_eq (HotP.pe_pinf (p := p) List.mem_cons_self (pv 0)) pe_str (nomark _)) (pss_one (ps_ret (pe_tup (pa_cons (HotP.pe_pinf (p := p) List.mem_cons_self (pv 0)) pa_nil)))) pss_nil)
      (pss_one (ps_ret (pe_ifExp (pt_cmpR op_eq (HotP.pe_pinf (p := p) List.mem_cons_self (pv 0)) pe_str (nomark _)) (pe_tup pa_nil) (pe_tup (pa_cons (HotP.pe_pinf (p := p) List.mem_cons_self (pv 0)) pa_nil)))))))))))), ?_⟩
      rw [show L2.start N_law_field [V.ref p.1] = [some (V.ref p.1)] from rfl]
      try dsimp only [cxOf, Cx.nox]
      tm_at "go"
      all_goals first
        | exact kq _ _ (by tm_at "same") (by tm_at "non") (by assumption)
        | exact absurd ‹Str.ofString "TooMany" = _› (by decide +kernel)
    rcases List.mem_cons.mp hk with rfl | hk
    · obtain ⟨f0, fd0, EX⟩ := L.c
      have n2 : PySem.W.findIn K (.ref k.c) "code" = some none := EX.ok.code
      obtain rfl : xs = [] := by
        match xs, hl with
        | [], _ => rfl
      have he : ErrP K H p k.c d [("code", .str "NotClosing")] := he
      clear EX
      refine ⟨_, (pss_cons (ps_if (pt_cmpR (op_in_seq : OpR _ _ (rIn K false)) (HotP.pe_pinf (p := p) List.mem_cons_self (pv 0)) (pe_lst (pa_cons pe_str (pa_cons pe_str (pa_cons pe_str (pa_cons pe_str (pa_cons pe_str pa_nil)))))) (by rfl)) (pss_one (ps_ret (pe_tup (pa_cons (HotP.pe_pinf (p := p) List.mem_cons_self (pv 0)) pa_nil)))) pss_nil)
      (pss_cons (ps_if (pt_cmpR (op_in_seq : OpR _ _ (rIn K false)) (HotP.pe_pinf (p := p) List.mem_cons_self (pv 0)) (pe_lst (pa_cons pe_str (pa_cons pe_str pa_nil))) (by rfl)) (pss_one (ps_ret (pe_tup (pa_cons (HotP.pe_pinf (p := p) List.mem_cons_self (pv 0)) pa_nil)))) pss_nil)
      (pss_cons (ps_if (pt_cmpR op_eq (HotP.pe_pinf (p := p) List.mem_cons_self (pv 0)) pe_str (nomark _)) (pss_one (ps_ret (pe_tup (pa_cons (HotP.pe_pinf (p := p) List.mem_cons_self (pv 0)) (pa_cons (HotP.pe_pinf (p := p) List.mem_cons_self (pv 0)) (pa_cons (HotP.pe_pinf (p := p) List.mem_cons_self (pv 0)) pa_nil)))))) pss_nil)
      (pss_cons (ps_if (pt_cmpR op_eq (HotP.pe_pinf (p := p) List.mem_cons_self (pv 0)) pe_str (nomark _)) (pss_one (ps_ret (pe_tup (pa_cons (HotP.pe_pinf (p := p) List.mem_cons_self (pv 0)) (pa_cons (HotP.pe_pinf (p := p) List.mem_cons_self (pv 0)) pa_nil))))) pss_nil)
      (pss_cons (ps_if (pt_cmpR op_eq (HotP.pe_pinf (p := p) List.mem_cons_self (pv 0)) pe_str (nomark _)) (pss_one (ps_ret (pe_tup (pa_cons (HotP.pe_pinf (p := p) List.mem_cons_self (pv 0)) pa_nil)))) pss_nil)
      (pss_cons (ps_if (pt_cmpR op_eq (HotP.pe_pinf (p := p) List.mem_cons_self (pv 0)) pe_str (nomark _)) (pss_one (ps_ret (pe_tup (pa_cons (HotP.pe_pinf (p := p) List.mem_cons_self (pv 0)) pa_nil)))) pss_nil)
      (pss_cons (ps_if (pt_cmpR op_eq (HotP.pe_pinf (p := p) List.mem_cons_self (pv 0)) pe_str (nomark _)) (pss_one (ps_ret (pe_tup (pa_cons (HotP.pe_pinf (p := p) List.mem_cons_self (pv 0)) pa_nil)))) pss_nil)
      (pss_one (ps_ret (pe_ifExp (pt_cmpR op_eq (HotP.pe_pinf (p := p) List.mem_cons_self (pv 0)) pe_str (nomark _)) (pe_tup pa_nil) (pe_tup (pa_cons (HotP.pe_pinf (p := p) List.mem_cons_self (pv 0)) pa_nil)))))))))))), ?_⟩
      rw [show L2.start N_law_field [V.ref p.1] = [some (V.ref p.1)] from rfl]
      try dsimp only [cxOf, Cx.nox]
      tm_at "go"
      all_goals first
        | exact kq _ _ (by tm_at "same") (by tm_at "non") (by assumption)
        | exact absurd ‹Str.ofString "NotClosing" = _› (by decide +kernel)
    cases hk
theorem ok_whys {k : Ks} (T : Txt K w mg Z) (L : Lg P K mg k) : FnOk P w K mg base CX0 13 Z.a_law_whys Z.d_law_whys ["_law_asks"] (sp_law_whys P w K mg base k.l 10) := by
  obtain ⟨f0, fd0, E0⟩ := L.n
  obtain ⟨f1, fd1, E1⟩ := L.p
  obtain ⟨f2, fd2, E2⟩ := L.a
  obtain ⟨f3, fd3, E3⟩ := L.s
  obtain ⟨f4, fd4, E4⟩ := L.r
  obtain ⟨f5, fd5, E5⟩ := L.m
  obtain ⟨f6, fd6, E6⟩ := L.c
  have EO : ∀ e ∈ k.l, KindOk K mg e := memc E0.ok (memc E1.ok (memc E2.ok (memc E3.ok (memc E4.ok (memc E5.ok (memc E6.ok mem0))))))
  have ne0 : ∀ e ∈ k.l, e.code ≠ "" := memc (show ("InvalidName" : Str) ≠ "" by decide +kernel) (memc (show ("InvalidPart" : Str) ≠ "" by decide +kernel) (memc (show ("InvalidAlignment" : Str) ≠ "" by decide +kernel) (memc (show ("InvalidScope" : Str) ≠ "" by decide +kernel) (memc (show ("InvalidRow" : Str) ≠ "" by decide +kernel) (memc (show ("TooMany" : Str) ≠ "" by decide +kernel) (memc (show ("NotClosing" : Str) ≠ "" by decide +kernel) mem0))))))
  obtain ⟨cI, cM, mI, mM, _⟩ := E0.ok.exm
  exact ok_law_whys (P := P) (base := base) (k := 10) T (by omega) EO ne0 mI mM (ok_law_field T L)
end

open Lend LamX NdefX SupX
theorem growS {H H1 H2 : Hp} (s : Same H1 H2) (g : Go.Grow H H1) : Go.Grow H H2 := g.trans (Go.Grow.same s)
theorem growX {H H1 H2 : Hp} (s : Go.Grow H1 H2) (g : Go.Grow H H1) : Go.Grow H H2 := g.trans s
theorem growR {H : Hp} : Go.Grow H H := Go.Grow.same (Same.refl _)
local macro_rules | `(tactic| tm_at "grow") => `(tactic| first
  | exact growR
  | (refine' growS (by assumption) ?z0; (case z0 => tm_at "grow"))
  | (refine' growX (by assumption) ?z0; (case z0 => tm_at "grow"))
  | fail)
def AppC (sp : Sp) (vs dvs : List V) (E : XK) (H : Hp) (Q : VK) : Prop := sp (vs ++ dvs) H Q E
theorem callD {sp : Sp} {dvs : List V} {E : XK} {t : TA} {σ : L2.St} {H : Hp} {Q : VK} (q : t σ H fun vs H1 => AppC sp vs dvs E H1 Q) : tCall sp dvs E t σ H Q := q
theorem okD {sp : Sp} {vs dvs ws : List V} {E : XK} {H : Hp} {Q : VK} (e : vs ++ dvs = ws) (q : sp ws H Q E) : AppC sp vs dvs E H Q := by
  subst e
  exact q
/-! ### a piece is made -/
/-- C(..): what is handed to __init__ -/
def MkP (sp : Sp) (C : Addr) (E : XK) (vs : List V) (H : Hp) (Q : VK) : Prop := ∀ x dx, H x = none → H dx = none → dx ≠ x → sp (.ref x :: vs) (upd (upd H dx (.own x)) x (.ins C dx [])) (fun v H2 => v = .non ∧ Q (.ref x) H2) E
theorem mkPi {C : Addr} {sp : Sp} {dvs : List V} {E : XK} {t : TA} {σ : L2.St} {H : Hp} {Q : VK} (q : t σ H fun vs H1 => MkP sp C E (vs ++ dvs) H1 Q) : tMake C sp dvs E t σ H Q := q
def KwP (C : Addr) (n m : Nat) (sp : Sp) (gV : List V → List V → List V) (E : XK) (vs zs : List V) (H : Hp) (Q : VK) : Prop := vs.length = n ∧ zs.length = m ∧ ∀ x dx, H x = none → H dx = none → dx ≠ x → sp (gV (.ref x :: vs) zs) (upd (upd H dx (.own x)) x (.ins C dx [])) (fun v H2 => v = .non ∧ Q (.ref x) H2) E
theorem mkK {C : Addr} {n m : Nat} {sp : Sp} {gV : List V → List V → List V} {E : XK} {t tk : TA} {σ : L2.St} {H : Hp} {Q : VK} (q : t σ H fun vs H1 => tk σ H1 fun zs H2 => KwP C n m sp gV E vs zs H2 Q) : tMakeK C n m sp gV E t tk σ H Q := q
theorem okK {C : Addr} {n m : Nat} {sp : Sp} {gV : List V → List V → List V} {E : XK} {vs zs ws : List V} {H : Hp} {Q : VK} (h1 : vs.length = n) (h2 : zs.length = m) (e : ∀ x : Addr, gV (.ref x :: vs) zs = .ref x :: ws) (q : MkP sp C E ws H Q) : KwP C n m sp gV E vs zs H Q := by
  refine ⟨h1, h2, fun x dx a b c => ?_⟩
  rw [e x]
  exact q x dx a b c
/-- len of an own instance -/
def LenO (sp : Sp) (E : XK) : List V → Hp → VK → Prop := fun xs H Q => ∃ a dx fs, xs = [.ref a] ∧ ∃ C, H a = some (.ins C dx fs) ∧ sp [.ref a] H (fun v H' => ∃ i : Int, v = .int i ∧ 0 ≤ i ∧ i < 2 ^ 63 ∧ Q (.int i) H') E
local macro_rules | `(tactic| tm_at "sp") => `(tactic| first
  | with_reducible refine mkK ?_
  | fail)
local macro_rules | `(tactic| tm_at "sp") => `(tactic| first
  | with_reducible refine callD ?_
  | ((with_reducible refine' okD ?e ?_); (case e => (first | (simp only [List.drop_succ_cons, List.drop_zero, List.drop_nil, List.cons_append, List.nil_append, List.append_nil]; (first | done | rfl)) | rfl)))
  | with_reducible refine mkPi ?_
  | fail)
section
variable {P : Program} {w : World} {K : PySem.W.Frag} {mg : Str → Option Value} {base : Heap} {Z : Fs}
theorem i_piece {k : Ks} {C b : Addr} {H : Hp} {Q : VK} {E : XK} {n p r a s kp : V} {dn dp da ds : PyData} {N : Addr → Prop} {rr : Option (List (Option (List V)))}
    (gn : GV K H b n dn (nmV n)) (gp : GV K H b p dp (partD dp)) (ga : GV K H b a da (alV a)) (gs : GV K H b s ds (scopeD (strD dp) ds)) (hR : RowsV H N r rr)
    (er : ∀ e xs, pieceE k n p a s dp ds rr = some (e, xs) → ∀ d H', ErrAt H H' d e xs → E (.ref e.D) (some d) H')
    (ok : ∀ os, pieceE k n p a s dp ds rr = none → rr = some os → ∀ (H' : Hp) (x dx q : Addr) (fs : List (Str × V)) (ys : List V), Same H H' → H x = none → H' x = some (.ins C dx fs) → fs.lookup ("_rows" : Str) = some (V.ref q) → H' q = some (.lst ys) → ys.length = os.length → Q (.ref x) H') :
    MkP (sp_init K C k) C E [n, p, r, a, s, kp] H Q := by
  intro x dx hx hd hne
  have s1 : Same H (upd (upd H dx (.own x)) x (.ins C dx [])) := fun u o e => by
    rw [upd_ne (ne_of_none e hx), upd_ne (ne_of_none e hd)]
    exact e
  refine ⟨x, dx, b, n, p, r, a, s, kp, dn, dp, da, ds, N, rr, rfl, upd_same, gn.same s1, gp.same s1, ga.same s1, gs.same s1, hR.same s1, fun e xs h d H' ea => er e xs h d H' ⟨Go.freeS s1 ea.new, s1.trans ea.same, ea.at_⟩, fun os h hrr H' q fs ys st e1 e2 e3 e4 => ⟨rfl, ok os h hrr H' x dx q fs ys (fun u o e => st u o (ne_of_none e hx) (s1 u o e)) hx e1 e2 e3 e4⟩⟩
theorem i_pieceE {k : Ks} {C b : Addr} {H : Hp} {Q : VK} {E : XK} {n p r a s kp : V} {dn dp da ds : PyData} {N : Addr → Prop} {rr : Option (List (Option (List V)))}
    (gn : GV K H b n dn (nmV n)) (gp : GV K H b p dp (partD dp)) (ga : GV K H b a da (alV a)) (gs : GV K H b s ds (scopeD (strD dp) ds)) (hR : RowsV H N r rr)
    (en : EndsSo (pieceE k n p a s dp ds rr) H Q E) : MkP (sp_init K C k) C E [n, p, r, a, s, kp] H Q := by
  refine i_piece gn gp ga gs hR (fun e xs h d H' ea => ?_) fun os h _ H' x dx q fs ys s1 _ _ _ _ _ => ?_
  · rw [h] at en
    exact en d H' ea
  · rw [h] at en
    exact en _ _ s1
theorem rowsE_none {k : Ks} {p : Str} {os : List (Option (List V))} (h : os.length ≤ 16) (a : os.all (rowO p) = true) : rowsE k p (some os) = none := by
  rw [rowsE_some, if_neg (by omega)]
  have z : os.findIdx? (fun o => !rowO p o) = none := by
    rw [List.findIdx?_eq_none_iff]
    intro o ho
    rw [List.all_eq_true.mp a o ho]
    rfl
  rw [z]
theorem EndsSo.later {o : Option (EKind × List V)} {G G1 : Hp} {Q : VK} {E : XK} (s : Same G G1) (en : EndsSo o G Q E) : EndsSo o G1 Q E := by
  match o, en with
  | none, en => exact fun v H' s' => en v H' (s.trans s')
  | some (e, xs), en => exact fun d H' ea => en d H' ⟨Go.freeS s ea.new, s.trans ea.same, ea.at_⟩
theorem Paired.rep {α β : Type} {R : α → β → Prop} {x : α} {o : β} (h : R x o) : ∀ n : Nat, Paired R (List.replicate n x) (List.replicate n o)
  | 0 => .nil
  | n + 1 => .cons h (Paired.rep h n)
theorem paired_dt {K : PySem.W.Frag} {G : Hp} {b l : Addr} (hB : Bag G b l) : ∀ {ts : List Addr} {oz : List Wy} {ds : List PyData}, Paired (fun t o => WhyAt o G t) ts oz → Paired (WhyD K G b) oz ds → DtA K G b (ts.map V.ref) ds
  | _, _, _, .nil, .nil => .nil
  | _, _, _, .cons h t, .cons d r => .cons (h.dt hB d) (paired_dt hB t r)
theorem Paired.one {α β : Type} {R : α → β → Prop} {x : α} {o : β} (h : R x o) : Paired R [x] [o] := .cons h .nil
theorem Paired.app {α β : Type} {R : α → β → Prop} : ∀ {xs ys : List α} {os qs : List β}, Paired R xs os → Paired R ys qs → Paired R (xs ++ ys) (os ++ qs)
  | _, _, _, _, .nil, h => h
  | _, _, _, _, .cons r t, h => .cons r (Paired.app t h)
def roomO : Option (List V) := some [.str "room", .int 1]
def haltO : Option (List V) := some [.str "halt"]
def outO : Option (List V) := some [.str "out", .str "r0"]
def r15 : List (Option (List V)) := List.replicate 15 roomO
theorem wr_ok {k : Ks} {p : Str} {os : List (Option (List V))} (hp : partD (.str p) = true) (h1 : os.length ≤ 16) (h2 : os.all (rowO p) = true) (h3 : closeE p (some os) = true) (h4 : scopeD p (.str "local") = true) : pieceE k (.str "a") (.str p) (.int 1) (.str "local") (.str p) (.str "local") (some os) = none :=
  pieceE7 (by decide +kernel) hp (rowsE_none h1 h2) h3 (by decide +kernel) h4
theorem wr_many {k : Ks} {p : Str} {os : List (Option (List V))} (hp : partD (.str p) = true) (h1 : 16 < os.length) : pieceE k (.str "a") (.str p) (.int 1) (.str "local") (.str p) (.str "local") (some os) = some (kMn k.m, [.int 16]) :=
  pieceE3 (by decide +kernel) hp (by rw [rowsE_some]; exact if_pos h1)
theorem wr_not {k : Ks} {os : List (Option (List V))} (h1 : os.length ≤ 16) (h2 : os.all (rowO "code") = true) (h3 : closeE "code" (some os) = false) : pieceE k (.str "a") (.str "code") (.int 1) (.str "local") (.str "code") (.str "local") (some os) = some (kNc k.c, []) :=
  pieceE4 (by decide +kernel) (by decide +kernel) (rowsE_none h1 h2) h3
theorem wr_row {k : Ks} {p sc : Str} {a : Int} {o : Option (List V)} (hp : partD (.str p) = true) (h : rowO p o = false) : pieceE k (.str "a") (.str p) (.int a) (.str sc) (.str p) (.str sc) (some [o]) = some (kRw k.r, [.int 0]) :=
  pieceE3 (by decide +kernel) hp (by
    rw [rowsE_some, if_neg (by simp)]
    have z : [o].findIdx? (fun o => !rowO p o) = some 0 := findIdx_some (x := o) rfl (by rw [h]; rfl) fun j y hj => absurd hj (Nat.not_lt_zero _)
    show (match [o].findIdx? (fun o => !rowO (strD (.str p)) o) with | some i => _ | none => _) = _
    rw [show strD (.str p) = p from rfl, z]
    rfl)
local macro_rules | `(tactic| tm_at "gv") => `(tactic| (refine' ⟨?d, ?e, fun h => ?s⟩; (case d => first | exact Dt.non | exact Dt.int _ | (refine Dt.str (strK_lit ?_); decide +kernel)); (case e => first | exact Nat.zero_le _ | decide +kernel); (case s => first | exact absurd h (by decide +kernel) | (refine' ⟨5000, .inl ⟨_, ?f, ?l⟩, Nat.le_refl _⟩; (case f => tm_at "flat"); (case l => decide +kernel)))))
def sp_law_written_so (TT : List (Addr × Str)) : Sp := fun vs H Q _ => ∃ (b l : Addr), vs = [] ∧ Bag H b l ∧ Tabs TT H ∧ ∀ H' : Hp, Q (.bl true) H'
theorem ok_law_written_so {k : Ks} {cc pp : Addr} {TT : List (Addr × Str)} (T : Txt K w mg Z) (L : Lg P K mg k)
    (hc : Z.d_law_written_so.code = .ref cc) (TB_law_written_so : TabB base mg cc pp) (hm_law_written_so : (pp, QL "_law_written_so") ∈ TT) (hu_law_written_so : ∀ p ∈ TT, p.1 = pp → p.2 = QL "_law_written_so") :
    FnOk P w K mg base CX0 15 Z.a_law_written_so Z.d_law_written_so [] (sp_law_written_so TT) := by
  have G_Piece___init__ := ok_Piece_init (P := P) (base := base) T L
  have G_Piece___len__ := ok_Piece_len (P := P) (base := base) T
  have G_law_whys := ok_whys (P := P) (w := w) (base := base) T L
  have G_law_same := ok_law_same (P := P) (base := base) T 4
  obtain ⟨oc, od, kV, doc, pm, an, cdv, ct, osl, e, lk, hcd⟩ := T.F_law_written_so.ex
  rw [e] at lk hc ⊢
  obtain rfl : cdv = .ref cc := hc
  refine fn_of lk hcd sc_law_written_so (fun vs H Q E h => ?_) (fun A outer s H vs Q E hr h => ?_)
  · obtain ⟨b, l, rfl, _⟩ := h
    rfl
  · obtain ⟨b, l, rfl, hB, hT, q⟩ := h
    refine ⟨_, PSs.nox (C8.pss_cut (ps_asg (pe_tup (pa_cons (pe_op op_rep (pe_lst (pa_cons (pe_tup (pa_cons pe_str (pa_cons pe_int pa_nil))) pa_nil)) pe_int) (pa_cons (pe_lst (pa_cons (pe_tup (pa_cons pe_str pa_nil)) pa_nil)) pa_nil))) (pg_tup (by rfl) (pgs_cons (pg_name (i := 0) sc_law_written_so.nd rfl (Or.inr rfl)) (pgs_cons (pg_name (i := 1) sc_law_written_so.nd rfl (Or.inr rfl)) pgs_nil))))
      (pss_cons (ps_set (i := 2) sc_law_written_so.nd rfl (Or.inl rfl) (pe_lst (pa_cons (Lend.pe_lam0 (T := TT) TB_law_written_so rfl hm_law_written_so hu_law_written_so (LendN.free_ok (by decide +kernel)) rfl) (pa_cons (Lend.pe_lam1 (T := TT) TB_law_written_so rfl hm_law_written_so hu_law_written_so (LendN.free_ok (by decide +kernel)) rfl rfl pe_int) (pa_cons (Lend.pe_lam1 (T := TT) TB_law_written_so rfl hm_law_written_so hu_law_written_so (LendN.free_ok (by decide +kernel)) rfl rfl pe_int) (pa_cons (Lend.pe_lam1 (T := TT) TB_law_written_so rfl hm_law_written_so hu_law_written_so (LendN.free_ok (by decide +kernel)) rfl rfl pe_int) (pa_cons (Lend.pe_lam1 (T := TT) TB_law_written_so rfl hm_law_written_so hu_law_written_so (LendN.free_ok (by decide +kernel)) rfl rfl pe_int) (pa_cons (Lend.pe_lam1 (T := TT) TB_law_written_so rfl hm_law_written_so hu_law_written_so (LendN.free_ok (by decide +kernel)) rfl rfl pe_int) (pa_cons (Lend.pe_lam1 (T := TT) TB_law_written_so rfl hm_law_written_so hu_law_written_so (LendN.free_ok (by decide +kernel)) rfl rfl pe_int) (pa_cons (Lend.pe_lam1 (T := TT) TB_law_written_so rfl hm_law_written_so hu_law_written_so (LendN.free_ok (by decide +kernel)) rfl rfl pe_int) (pa_cons (Lend.pe_lam1 (T := TT) TB_law_written_so rfl hm_law_written_so hu_law_written_so (LendN.free_ok (by decide +kernel)) rfl rfl pe_int) (pa_cons (Lend.pe_lam1 (T := TT) TB_law_written_so rfl hm_law_written_so hu_law_written_so (LendN.free_ok (by decide +kernel)) rfl rfl pe_int) (pa_cons (Lend.pe_lam1 (T := TT) TB_law_written_so rfl hm_law_written_so hu_law_written_so (LendN.free_ok (by decide +kernel)) rfl rfl pe_int) (pa_cons (Lend.pe_lam1 (T := TT) TB_law_written_so rfl hm_law_written_so hu_law_written_so (LendN.free_ok (by decide +kernel)) rfl rfl pe_int) pa_nil))))))))))))))
      (pss_cons (ps_set (i := 3) sc_law_written_so.nd rfl (Or.inl rfl) (pe_lst (pa_cons (pe_tup (pa_cons pe_str (pa_cons pe_non pa_nil))) (pa_cons (pe_tup (pa_cons pe_str (pa_cons (pe_tup (pa_cons pe_int pa_nil)) pa_nil))) (pa_cons (pe_tup (pa_cons pe_str (pa_cons pe_non pa_nil))) (pa_cons (pe_tup (pa_cons pe_str (pa_cons (pe_tup (pa_cons pe_int pa_nil)) pa_nil))) (pa_cons (pe_tup (pa_cons pe_str (pa_cons (pe_tup pa_nil) pa_nil))) (pa_cons (pe_tup (pa_cons pe_str (pa_cons (pe_tup pa_nil) pa_nil))) (pa_cons (pe_tup (pa_cons pe_str (pa_cons (pe_tup pa_nil) pa_nil))) (pa_cons (pe_tup (pa_cons pe_str (pa_cons pe_non pa_nil))) pa_nil))))))))))
      (pss_cons (ps_set (i := 3) sc_law_written_so.nd rfl (Or.inl rfl) (pe_op op_cat (pv 3) (pe_lst (pa_cons (pe_tup (pa_cons pe_str (pa_cons (pe_tup (pa_cons pe_int pa_nil)) pa_nil))) (pa_cons (pe_tup (pa_cons pe_str (pa_cons (pe_tup (pa_cons pe_str pa_nil)) pa_nil))) (pa_cons (pe_tup (pa_cons pe_str (pa_cons (pe_tup (pa_cons pe_str pa_nil)) pa_nil))) (pa_cons (pe_tup (pa_cons pe_str (pa_cons (pe_tup (pa_cons pe_int pa_nil)) pa_nil))) pa_nil)))))))
      (pss_one (ps_ret (pe_call G_law_same (hr.mono (by omega)) (by rfl) T.m_law_same T.F_law_same.kp T.b_law_same .nil pass0 (pa_cons (LendN.pe_callW [("_law_rooms", 0), ("_law_end", 1)] G_law_whys (hr.mono (by omega)) (by rfl) T.m_law_whys T.F_law_whys.kp T.b_law_whys .nil (pa_cons (pv 2) pa_nil)) (pa_cons (pv 3) pa_nil))))))))), ?_⟩
    rw [show L2.start N_law_written_so [] = [none, none, none, none] from rfl]
    try dsimp only [cxOf, Cx.nox]
    refine Go.cut (fun σ' H' => ∃ (p1 p2 t1 t2 : Addr), σ' = [some (.ref p1), some (.ref p2), none, none] ∧ Bag H' b l ∧ Tabs TT H' ∧ H' p1 = some (.lst (List.replicate 15 (.ref t1))) ∧ H' p2 = some (.lst [.ref t2]) ∧ H' t1 = some (.tup [.str "room", .int 1]) ∧ H' t2 = some (.tup [.str "halt"])) ?_ ?_
    · tm_at "go"
      refine ⟨_, _, _, _, rfl, by tm_at "bag", by tm_at "tabs", by tm_at "hpO", by tm_at "hpO", by tm_at "hpO", by tm_at "hpO"⟩
    · rintro σ' H1 ⟨p1, p2, t1, t2, rfl, B1, T1, ep1, ep2, et1, et2⟩
      clear hB hT
      tm_at "go"
      rename_i due Ht mt st et tb tl
      have BHt : Bag Ht b l := by tm_at "bag"
      have dDue : Dt K Ht b (.ref due) (.list [.tuple [.str "", .none], .tuple [.str "TooMany", .tuple [.int 16]], .tuple [.str "", .none], .tuple [.str "TooMany", .tuple [.int 16]], .tuple [.str "NotClosing", .tuple []], .tuple [.str "NotClosing", .tuple []], .tuple [.str "NotClosing", .tuple []], .tuple [.str "", .none], .tuple [.str "InvalidRow", .tuple [.int 0]], .tuple [.str "InvalidScope", .tuple [.str "open"]], .tuple [.str "InvalidName", .tuple [.str "A"]], .tuple [.str "InvalidRow", .tuple [.int 0]]]) := by tm_at "dt"
      have fp1 : Ht p1 = some (.lst (List.replicate 15 (.ref t1))) := by tm_at "hpO"
      have fp2 : Ht p2 = some (.lst [.ref t2]) := by tm_at "hpO"
      have ft1 : Ht t1 = some (.tup [.str "room", .int 1]) := by tm_at "hpO"
      have fRoom : ∀ x ∈ [V.str "room", V.int 1], flatK x := by tm_at "all" <;> tm_at "flatK"
      have fHalt : ∀ x ∈ [V.str "halt"], flatK x := by tm_at "all" <;> tm_at "flatK"
      have fOut : ∀ x ∈ [V.str "out", V.str "r0"], flatK x := by tm_at "all" <;> tm_at "flatK"
      have ft2 : Ht t2 = some (.tup [.str "halt"]) := by tm_at "hpO"
      refine whysW [none, some ("TooMany", [.int 16]), none, some ("TooMany", [.int 16]), some ("NotClosing", []), some ("NotClosing", []), some ("NotClosing", []), none, some ("InvalidRow", [.int 0]), some ("InvalidScope", [.str "open"]), some ("InvalidName", [.str "A"]), some ("InvalidRow", [.int 0])] (by tm_at "hpL") rfl (Nat.le_of_ble_eq_true rfl) ?_ ?_ ?_
      · intro y m
        rcases List.mem_cons.mp m with rfl | m
        · exact ⟨rfl, ⟨_, rfl⟩, (show List.lookup _ (defScope s_law_written_so).names = some .cell by decide +kernel), rfl⟩
        rcases List.mem_cons.mp m with rfl | m
        · exact ⟨rfl, ⟨_, rfl⟩, (show List.lookup _ (defScope s_law_written_so).names = some .cell by decide +kernel), rfl⟩
        cases m
      · intro cs C off n x' hx
        match n, hx with
        | 0, hx =>
          cases hx
          refine' ask_g0 (EK := k.l) (k := 9) (N := ["_law_rooms", "_law_end"]) (fr := ["_law_rooms", "_law_end"]) (ws := [.ref p1, .ref p2]) (none) ?S0 C off (.cons (C.cap (.head _) rfl) (.cons (C.cap (.tail _ (.head _)) rfl) .nil)) ?hF0 ?hC0 ?hD0 ?hb00 ?body0 ?hk0 ?hb0
          (case hF0 => tm_at "hpO")
          (case hC0 => tm_at "hpO")
          (case hD0 => tm_at "defs")
          (case hb00 => rfl)
          (case S0 => exact nscope_by (by decide +kernel))
          (case body0 => exact fun A outer s H E hr => (pe_callB (call_lenO G_Piece___len__ (hr.mono (by omega)) T.S_Piece___len__ T.b_Piece___len__ pass0) (by rfl) T.n_len boot_len (pa_cons (pe_make T.mk_Piece G_Piece___init__ (hr.mono (by omega)) (by rfl) T.m_Piece (Classical.choose_spec T.d_Piece___init___4).2 (Classical.choose_spec T.d_Piece___init___4).1 LendN.passL (pa_cons pe_str (pa_cons pe_str (pa_cons (pe_op op_cat (pv 0) (pv 1)) pa_nil)))) pa_nil)))
          (case hk0 => exact (fun e xs h => nomatch h))
          (case hb0 =>
            intro Gc Qc Ec sc en
            have ep1 : Gc p1 = some (.lst (List.replicate 15 (.ref t1))) := sc _ _ fp1
            have ep2 : Gc p2 = some (.lst [.ref t2]) := sc _ _ fp2
            have m1 : Gc t1 = some (.tup [.str "room", .int 1]) := sc _ _ ft1
            have m2 : Gc t2 = some (.tup [.str "halt"]) := sc _ _ ft2
            clear sc
            tm_at "go"
            rename_i q Gq nq sq eq
            have hr : RowsV Gq (fun _ => True) (.ref q) (some (r15 ++ [haltO])) := .lst (by tm_at "hpO") trivial (Nat.le_of_ble_eq_true rfl) (Paired.app (Paired.rep (R := RowV Gq (fun _ => True)) (x := .ref t1) (o := roomO) (.tup (by tm_at "hpO") (Nat.le_of_ble_eq_true rfl) fRoom) 15) (Paired.one (R := RowV Gq (fun _ => True)) (x := .ref t2) (o := haltO) (.tup (by tm_at "hpO") (Nat.le_of_ble_eq_true rfl) fHalt)))
            refine i_piece (b := b) (dn := .str "a") (dp := .str "code") (da := .int 1) (ds := .str "local") (by tm_at "gv") (by tm_at "gv") (by tm_at "gv") (by tm_at "gv") hr (fun e xs h => ?_) fun os h ho H9 x dx q9 fs ys s9 nx e9 l9 eq9 ly => ?_
            · rw [show pieceE k _ _ _ _ _ _ _ = none from wr_ok (by decide +kernel) (by decide +kernel) (by decide +kernel) (by decide +kernel) (by decide +kernel)] at h
              cases h
            · cases ho
              exact ⟨x, dx, fs, rfl, e9, x, dx, q9, fs, ys, rfl, e9, l9, eq9, _, rfl, Int.ofNat_nonneg _, (by rw [ly]; decide +kernel), en _ _ (by tm_at "same")⟩)
        | 1, hx =>
          cases hx
          refine' ask_g1 (EK := k.l) (k := 9) (N := ["_law_a", "_law_end", "_law_rooms"]) (fr := ["_law_end", "_law_rooms"]) (ws := [.ref p2, .ref p1]) (some (kMn k.m, [.int 16])) ?S1 C off (.cons (C.cap (.tail _ (.head _)) rfl) (.cons (C.cap (.head _) rfl) .nil)) ?hF1 ?hC1 ?hD1 ?hb01 ?body1 ?hk1 ?hb1
          (case hF1 => tm_at "hpO")
          (case hC1 => tm_at "hpO")
          (case hD1 => tm_at "defs")
          (case hb01 => exact ⟨_, rfl, fun _ => rfl⟩)
          (case S1 => exact nscope_by (by decide +kernel))
          (case body1 => exact fun A outer s H E hr => (pe_make T.mk_Piece G_Piece___init__ (hr.mono (by omega)) (by rfl) T.m_Piece (Classical.choose_spec T.d_Piece___init___4).2 (Classical.choose_spec T.d_Piece___init___4).1 LendN.passL (pa_cons pe_str (pa_cons pe_str (pa_cons (pe_op op_cat (pe_op op_cat (pv 2) (pe_lst (pa_cons (pe_tup (pa_cons pe_str (pa_cons pe_int pa_nil))) pa_nil))) (pv 1)) pa_nil)))))
          (case hk1 => exact (fun e xs h => by cases h; exact ⟨.tail _ (.tail _ (.tail _ (.tail _ (.tail _ (.head _))))), rfl⟩))
          (case hb1 =>
            intro Gc Qc Ec sc en
            have ep1 : Gc p1 = some (.lst (List.replicate 15 (.ref t1))) := sc _ _ fp1
            have ep2 : Gc p2 = some (.lst [.ref t2]) := sc _ _ fp2
            have m1 : Gc t1 = some (.tup [.str "room", .int 1]) := sc _ _ ft1
            have m2 : Gc t2 = some (.tup [.str "halt"]) := sc _ _ ft2
            clear sc
            tm_at "go"
            rename_i u Gu nu su eu v Gv nv sv ev w Gw nw sw ew q Gq nq sq eq
            have hr : RowsV Gq (fun _ => True) (.ref q) (some ((r15 ++ [roomO]) ++ [haltO])) := .lst (by tm_at "hpO") trivial (Nat.le_of_ble_eq_true rfl) (Paired.app (Paired.app (Paired.rep (R := RowV Gq (fun _ => True)) (x := .ref t1) (o := roomO) (.tup (by tm_at "hpO") (Nat.le_of_ble_eq_true rfl) fRoom) 15) (.cons (.tup (by tm_at "hpO") (Nat.le_of_ble_eq_true rfl) fRoom) .nil)) (Paired.one (R := RowV Gq (fun _ => True)) (x := .ref t2) (o := haltO) (.tup (by tm_at "hpO") (Nat.le_of_ble_eq_true rfl) fHalt)))
            refine i_pieceE (b := b) (dn := .str "a") (dp := .str "code") (da := .int 1) (ds := .str "local") (by tm_at "gv") (by tm_at "gv") (by tm_at "gv") (by tm_at "gv") hr ?_
            rw [show pieceE k _ _ _ _ _ _ _ = some (kMn k.m, [.int 16]) from wr_many (by decide +kernel) (by decide +kernel)]
            exact en.later (by tm_at "same"))
        | 2, hx =>
          cases hx
          refine' ask_g1 (EK := k.l) (k := 9) (N := ["_law_b", "_law_rooms"]) (fr := ["_law_rooms"]) (ws := [.ref p1]) (none) ?S2 C off (.cons (C.cap (.head _) rfl) .nil) ?hF2 ?hC2 ?hD2 ?hb02 ?body2 ?hk2 ?hb2
          (case hF2 => tm_at "hpO")
          (case hC2 => tm_at "hpO")
          (case hD2 => tm_at "defs")
          (case hb02 => exact ⟨_, rfl, fun _ => rfl⟩)
          (case S2 => exact nscope_by (by decide +kernel))
          (case body2 => exact fun A outer s H E hr => (pe_callB (call_lenO G_Piece___len__ (hr.mono (by omega)) T.S_Piece___len__ T.b_Piece___len__ pass0) (by rfl) T.n_len boot_len (pa_cons (pe_make T.mk_Piece G_Piece___init__ (hr.mono (by omega)) (by rfl) T.m_Piece (Classical.choose_spec T.d_Piece___init___4).2 (Classical.choose_spec T.d_Piece___init___4).1 LendN.passL (pa_cons pe_str (pa_cons pe_str (pa_cons (pe_op op_cat (pv 1) (pe_lst (pa_cons (pe_tup (pa_cons pe_str (pa_cons pe_int pa_nil))) pa_nil))) pa_nil)))) pa_nil)))
          (case hk2 => exact (fun e xs h => nomatch h))
          (case hb2 =>
            intro Gc Qc Ec sc en
            have ep1 : Gc p1 = some (.lst (List.replicate 15 (.ref t1))) := sc _ _ fp1
            have ep2 : Gc p2 = some (.lst [.ref t2]) := sc _ _ fp2
            have m1 : Gc t1 = some (.tup [.str "room", .int 1]) := sc _ _ ft1
            have m2 : Gc t2 = some (.tup [.str "halt"]) := sc _ _ ft2
            clear sc
            tm_at "go"
            rename_i u Gu nu su eu v Gv nv sv ev q Gq nq sq eq
            have hr : RowsV Gq (fun _ => True) (.ref q) (some (r15 ++ [roomO])) := .lst (by tm_at "hpO") trivial (Nat.le_of_ble_eq_true rfl) (Paired.app (Paired.rep (R := RowV Gq (fun _ => True)) (x := .ref t1) (o := roomO) (.tup (by tm_at "hpO") (Nat.le_of_ble_eq_true rfl) fRoom) 15) (.cons (.tup (by tm_at "hpO") (Nat.le_of_ble_eq_true rfl) fRoom) .nil))
            refine i_piece (b := b) (dn := .str "a") (dp := .str "data") (da := .int 1) (ds := .str "local") (by tm_at "gv") (by tm_at "gv") (by tm_at "gv") (by tm_at "gv") hr (fun e xs h => ?_) fun os h ho H9 x dx q9 fs ys s9 nx e9 l9 eq9 ly => ?_
            · rw [show pieceE k _ _ _ _ _ _ _ = none from wr_ok (by decide +kernel) (by decide +kernel) (by decide +kernel) (by decide +kernel) (by decide +kernel)] at h
              cases h
            · cases ho
              exact ⟨x, dx, fs, rfl, e9, x, dx, q9, fs, ys, rfl, e9, l9, eq9, _, rfl, Int.ofNat_nonneg _, (by rw [ly]; decide +kernel), en _ _ (by tm_at "same")⟩)
        | 3, hx =>
          cases hx
          refine' ask_g1 (EK := k.l) (k := 9) (N := ["_law_c", "_law_rooms"]) (fr := ["_law_rooms"]) (ws := [.ref p1]) (some (kMn k.m, [.int 16])) ?S3 C off (.cons (C.cap (.head _) rfl) .nil) ?hF3 ?hC3 ?hD3 ?hb03 ?body3 ?hk3 ?hb3
          (case hF3 => tm_at "hpO")
          (case hC3 => tm_at "hpO")
          (case hD3 => tm_at "defs")
          (case hb03 => exact ⟨_, rfl, fun _ => rfl⟩)
          (case S3 => exact nscope_by (by decide +kernel))
          (case body3 => exact fun A outer s H E hr => (pe_make T.mk_Piece G_Piece___init__ (hr.mono (by omega)) (by rfl) T.m_Piece (Classical.choose_spec T.d_Piece___init___4).2 (Classical.choose_spec T.d_Piece___init___4).1 LendN.passL (pa_cons pe_str (pa_cons pe_str (pa_cons (pe_op op_cat (pv 1) (pe_lst (pa_cons pe_non (pa_cons pe_non pa_nil)))) pa_nil)))))
          (case hk3 => exact (fun e xs h => by cases h; exact ⟨.tail _ (.tail _ (.tail _ (.tail _ (.tail _ (.head _))))), rfl⟩))
          (case hb3 =>
            intro Gc Qc Ec sc en
            have ep1 : Gc p1 = some (.lst (List.replicate 15 (.ref t1))) := sc _ _ fp1
            have ep2 : Gc p2 = some (.lst [.ref t2]) := sc _ _ fp2
            have m1 : Gc t1 = some (.tup [.str "room", .int 1]) := sc _ _ ft1
            have m2 : Gc t2 = some (.tup [.str "halt"]) := sc _ _ ft2
            clear sc
            tm_at "go"
            rename_i v Gv nv sv ev q Gq nq sq eq
            have hr : RowsV Gq (fun _ => True) (.ref q) (some (r15 ++ [none, none])) := .lst (by tm_at "hpO") trivial (Nat.le_of_ble_eq_true rfl) (Paired.app (Paired.rep (R := RowV Gq (fun _ => True)) (x := .ref t1) (o := roomO) (.tup (by tm_at "hpO") (Nat.le_of_ble_eq_true rfl) fRoom) 15) (.cons (.flat flatK.non) (.cons (.flat flatK.non) .nil)))
            refine i_pieceE (b := b) (dn := .str "a") (dp := .str "data") (da := .int 1) (ds := .str "local") (by tm_at "gv") (by tm_at "gv") (by tm_at "gv") (by tm_at "gv") hr ?_
            rw [show pieceE k _ _ _ _ _ _ _ = some (kMn k.m, [.int 16]) from wr_many (by decide +kernel) (by decide +kernel)]
            exact en.later (by tm_at "same"))
        | 4, hx =>
          cases hx
          refine' ask_g1 (EK := k.l) (k := 9) (N := ["_law_d"]) (fr := []) (ws := []) (some (kNc k.c, [])) ?S4 C off .nil ?hF4 ?hC4 ?hD4 ?hb04 ?body4 ?hk4 ?hb4
          (case hF4 => tm_at "hpO")
          (case hC4 => tm_at "hpO")
          (case hD4 => tm_at "defs")
          (case hb04 => exact ⟨_, rfl, fun _ => rfl⟩)
          (case S4 => exact nscope_by (by decide +kernel))
          (case body4 => exact fun A outer s H E hr => (pe_make T.mk_Piece G_Piece___init__ (hr.mono (by omega)) (by rfl) T.m_Piece (Classical.choose_spec T.d_Piece___init___4).2 (Classical.choose_spec T.d_Piece___init___4).1 LendN.passL (pa_cons pe_str (pa_cons pe_str (pa_cons (pe_lst pa_nil) pa_nil)))))
          (case hk4 => exact (fun e xs h => by cases h; exact ⟨.tail _ (.tail _ (.tail _ (.tail _ (.tail _ (.tail _ (.head _)))))), rfl⟩))
          (case hb4 =>
            intro Gc Qc Ec sc en
            have ep1 : Gc p1 = some (.lst (List.replicate 15 (.ref t1))) := sc _ _ fp1
            have ep2 : Gc p2 = some (.lst [.ref t2]) := sc _ _ fp2
            have m1 : Gc t1 = some (.tup [.str "room", .int 1]) := sc _ _ ft1
            have m2 : Gc t2 = some (.tup [.str "halt"]) := sc _ _ ft2
            clear sc
            tm_at "go"
            rename_i q Gq nq sq eq
            have hr : RowsV Gq (fun _ => True) (.ref q) (some ([])) := .lst (by tm_at "hpO") trivial (Nat.le_of_ble_eq_true rfl) (.nil)
            refine i_pieceE (b := b) (dn := .str "a") (dp := .str "code") (da := .int 1) (ds := .str "local") (by tm_at "gv") (by tm_at "gv") (by tm_at "gv") (by tm_at "gv") hr ?_
            rw [show pieceE k _ _ _ _ _ _ _ = some (kNc k.c, []) from wr_not (by decide +kernel) (by decide +kernel) (by decide +kernel)]
            exact en.later (by tm_at "same"))
        | 5, hx =>
          cases hx
          refine' ask_g1 (EK := k.l) (k := 9) (N := ["_law_f", "_law_rooms"]) (fr := ["_law_rooms"]) (ws := [.ref p1]) (some (kNc k.c, [])) ?S5 C off (.cons (C.cap (.head _) rfl) .nil) ?hF5 ?hC5 ?hD5 ?hb05 ?body5 ?hk5 ?hb5
          (case hF5 => tm_at "hpO")
          (case hC5 => tm_at "hpO")
          (case hD5 => tm_at "defs")
          (case hb05 => exact ⟨_, rfl, fun _ => rfl⟩)
          (case S5 => exact nscope_by (by decide +kernel))
          (case body5 => exact fun A outer s H E hr => (pe_make T.mk_Piece G_Piece___init__ (hr.mono (by omega)) (by rfl) T.m_Piece (Classical.choose_spec T.d_Piece___init___4).2 (Classical.choose_spec T.d_Piece___init___4).1 LendN.passL (pa_cons pe_str (pa_cons pe_str (pa_cons (pv 1) pa_nil)))))
          (case hk5 => exact (fun e xs h => by cases h; exact ⟨.tail _ (.tail _ (.tail _ (.tail _ (.tail _ (.tail _ (.head _)))))), rfl⟩))
          (case hb5 =>
            intro Gc Qc Ec sc en
            have ep1 : Gc p1 = some (.lst (List.replicate 15 (.ref t1))) := sc _ _ fp1
            have ep2 : Gc p2 = some (.lst [.ref t2]) := sc _ _ fp2
            have m1 : Gc t1 = some (.tup [.str "room", .int 1]) := sc _ _ ft1
            have m2 : Gc t2 = some (.tup [.str "halt"]) := sc _ _ ft2
            clear sc
            tm_at "go"
            have hr : RowsV Gc (fun _ => True) (.ref p1) (some (r15)) := .lst (by tm_at "hpO") trivial (Nat.le_of_ble_eq_true rfl) ((Paired.rep (R := RowV Gc (fun _ => True)) (x := .ref t1) (o := roomO) (.tup (by tm_at "hpO") (Nat.le_of_ble_eq_true rfl) fRoom) 15))
            refine i_pieceE (b := b) (dn := .str "a") (dp := .str "code") (da := .int 1) (ds := .str "local") (by tm_at "gv") (by tm_at "gv") (by tm_at "gv") (by tm_at "gv") hr ?_
            rw [show pieceE k _ _ _ _ _ _ _ = some (kNc k.c, []) from wr_not (by decide +kernel) (by decide +kernel) (by decide +kernel)]
            exact en.later (by tm_at "same"))
        | 6, hx =>
          cases hx
          refine' ask_g1 (EK := k.l) (k := 9) (N := ["_law_g", "_law_end"]) (fr := ["_law_end"]) (ws := [.ref p2]) (some (kNc k.c, [])) ?S6 C off (.cons (C.cap (.tail _ (.head _)) rfl) .nil) ?hF6 ?hC6 ?hD6 ?hb06 ?body6 ?hk6 ?hb6
          (case hF6 => tm_at "hpO")
          (case hC6 => tm_at "hpO")
          (case hD6 => tm_at "defs")
          (case hb06 => exact ⟨_, rfl, fun _ => rfl⟩)
          (case S6 => exact nscope_by (by decide +kernel))
          (case body6 => exact fun A outer s H E hr => (pe_make T.mk_Piece G_Piece___init__ (hr.mono (by omega)) (by rfl) T.m_Piece (Classical.choose_spec T.d_Piece___init___4).2 (Classical.choose_spec T.d_Piece___init___4).1 LendN.passL (pa_cons pe_str (pa_cons pe_str (pa_cons (pe_op op_cat (pv 1) (pe_lst (pa_cons (pe_tup (pa_cons pe_str (pa_cons pe_str pa_nil))) pa_nil))) pa_nil)))))
          (case hk6 => exact (fun e xs h => by cases h; exact ⟨.tail _ (.tail _ (.tail _ (.tail _ (.tail _ (.tail _ (.head _)))))), rfl⟩))
          (case hb6 =>
            intro Gc Qc Ec sc en
            have ep1 : Gc p1 = some (.lst (List.replicate 15 (.ref t1))) := sc _ _ fp1
            have ep2 : Gc p2 = some (.lst [.ref t2]) := sc _ _ fp2
            have m1 : Gc t1 = some (.tup [.str "room", .int 1]) := sc _ _ ft1
            have m2 : Gc t2 = some (.tup [.str "halt"]) := sc _ _ ft2
            clear sc
            tm_at "go"
            rename_i u Gu nu su eu v Gv nv sv ev q Gq nq sq eq
            have hr : RowsV Gq (fun _ => True) (.ref q) (some ([haltO] ++ [outO])) := .lst (by tm_at "hpO") trivial (Nat.le_of_ble_eq_true rfl) (Paired.app (Paired.one (R := RowV Gq (fun _ => True)) (x := .ref t2) (o := haltO) (.tup (by tm_at "hpO") (Nat.le_of_ble_eq_true rfl) fHalt)) (.cons (.tup (by tm_at "hpO") (Nat.le_of_ble_eq_true rfl) fOut) .nil))
            refine i_pieceE (b := b) (dn := .str "a") (dp := .str "code") (da := .int 1) (ds := .str "local") (by tm_at "gv") (by tm_at "gv") (by tm_at "gv") (by tm_at "gv") hr ?_
            rw [show pieceE k _ _ _ _ _ _ _ = some (kNc k.c, []) from wr_not (by decide +kernel) (by decide +kernel) (by decide +kernel)]
            exact en.later (by tm_at "same"))
        | 7, hx =>
          cases hx
          refine' ask_g1 (EK := k.l) (k := 9) (N := ["_law_h"]) (fr := []) (ws := []) (none) ?S7 C off .nil ?hF7 ?hC7 ?hD7 ?hb07 ?body7 ?hk7 ?hb7
          (case hF7 => tm_at "hpO")
          (case hC7 => tm_at "hpO")
          (case hD7 => tm_at "defs")
          (case hb07 => exact ⟨_, rfl, fun _ => rfl⟩)
          (case S7 => exact nscope_by (by decide +kernel))
          (case body7 => exact fun A outer s H E hr => (pe_callB (call_lenO G_Piece___len__ (hr.mono (by omega)) T.S_Piece___len__ T.b_Piece___len__ pass0) (by rfl) T.n_len boot_len (pa_cons (pe_make T.mk_Piece G_Piece___init__ (hr.mono (by omega)) (by rfl) T.m_Piece (Classical.choose_spec T.d_Piece___init___4).2 (Classical.choose_spec T.d_Piece___init___4).1 LendN.passL (pa_cons pe_str (pa_cons pe_str (pa_cons (pe_lst pa_nil) pa_nil)))) pa_nil)))
          (case hk7 => exact (fun e xs h => nomatch h))
          (case hb7 =>
            intro Gc Qc Ec sc en
            have ep1 : Gc p1 = some (.lst (List.replicate 15 (.ref t1))) := sc _ _ fp1
            have ep2 : Gc p2 = some (.lst [.ref t2]) := sc _ _ fp2
            have m1 : Gc t1 = some (.tup [.str "room", .int 1]) := sc _ _ ft1
            have m2 : Gc t2 = some (.tup [.str "halt"]) := sc _ _ ft2
            clear sc
            tm_at "go"
            rename_i q Gq nq sq eq
            have hr : RowsV Gq (fun _ => True) (.ref q) (some ([])) := .lst (by tm_at "hpO") trivial (Nat.le_of_ble_eq_true rfl) (.nil)
            refine i_piece (b := b) (dn := .str "a") (dp := .str "data") (da := .int 1) (ds := .str "local") (by tm_at "gv") (by tm_at "gv") (by tm_at "gv") (by tm_at "gv") hr (fun e xs h => ?_) fun os h ho H9 x dx q9 fs ys s9 nx e9 l9 eq9 ly => ?_
            · rw [show pieceE k _ _ _ _ _ _ _ = none from wr_ok (by decide +kernel) (by decide +kernel) (by decide +kernel) (by decide +kernel) (by decide +kernel)] at h
              cases h
            · cases ho
              exact ⟨x, dx, fs, rfl, e9, x, dx, q9, fs, ys, rfl, e9, l9, eq9, _, rfl, Int.ofNat_nonneg _, (by rw [ly]; decide +kernel), en _ _ (by tm_at "same")⟩)
        | 8, hx =>
          cases hx
          refine' ask_g1 (EK := k.l) (k := 9) (N := ["_law_i", "_law_end"]) (fr := ["_law_end"]) (ws := [.ref p2]) (some (kRw k.r, [.int 0])) ?S8 C off (.cons (C.cap (.tail _ (.head _)) rfl) .nil) ?hF8 ?hC8 ?hD8 ?hb08 ?body8 ?hk8 ?hb8
          (case hF8 => tm_at "hpO")
          (case hC8 => tm_at "hpO")
          (case hD8 => tm_at "defs")
          (case hb08 => exact ⟨_, rfl, fun _ => rfl⟩)
          (case S8 => exact nscope_by (by decide +kernel))
          (case body8 => exact fun A outer s H E hr => (pe_makeK T.mk_Piece G_Piece___init__ (hr.mono (by omega)) (by rfl) T.m_Piece (Classical.choose_spec T.d_Piece___init___4_scope) LendN.passL (pa_cons pe_str (pa_cons pe_str (pa_cons (pv 1) pa_nil))) (pk_cons pe_str pk_nil)))
          (case hk8 => exact (fun e xs h => by cases h; exact ⟨.tail _ (.tail _ (.tail _ (.tail _ (.head _)))), rfl⟩))
          (case hb8 =>
            intro Gc Qc Ec sc en
            have ep1 : Gc p1 = some (.lst (List.replicate 15 (.ref t1))) := sc _ _ fp1
            have ep2 : Gc p2 = some (.lst [.ref t2]) := sc _ _ fp2
            have m1 : Gc t1 = some (.tup [.str "room", .int 1]) := sc _ _ ft1
            have m2 : Gc t2 = some (.tup [.str "halt"]) := sc _ _ ft2
            clear sc
            tm_at "go"
            have hr : RowsV Gc (fun _ => True) (.ref p2) (some ([haltO])) := .lst (by tm_at "hpO") trivial (Nat.le_of_ble_eq_true rfl) ((Paired.one (R := RowV Gc (fun _ => True)) (x := .ref t2) (o := haltO) (.tup (by tm_at "hpO") (Nat.le_of_ble_eq_true rfl) fHalt)))
            refine okK rfl rfl (ws := [.str "a", .str "data", .ref p2, .int 1, .str "open", .bl false]) (fun _ => rfl) ?_
            refine i_pieceE (b := b) (dn := .str "a") (dp := .str "data") (da := .int 1) (ds := .str "open") (by tm_at "gv") (by tm_at "gv") (by tm_at "gv") (by tm_at "gv") hr ?_
            rw [show pieceE k _ _ _ _ _ _ _ = some (kRw k.r, [.int 0]) from wr_row (by decide +kernel) (by decide +kernel)]
            exact en.later (by tm_at "same"))
        | 9, hx =>
          cases hx
          refine' ask_g1 (EK := k.l) (k := 9) (N := ["_law_j"]) (fr := []) (ws := []) (some (kSc k.s, [.str "open"])) ?S9 C off .nil ?hF9 ?hC9 ?hD9 ?hb09 ?body9 ?hk9 ?hb9
          (case hF9 => tm_at "hpO")
          (case hC9 => tm_at "hpO")
          (case hD9 => tm_at "defs")
          (case hb09 => exact ⟨_, rfl, fun _ => rfl⟩)
          (case S9 => exact nscope_by (by decide +kernel))
          (case body9 => exact fun A outer s H E hr => (pe_makeK T.mk_Piece G_Piece___init__ (hr.mono (by omega)) (by rfl) T.m_Piece (Classical.choose_spec T.d_Piece___init___4_scope) LendN.passL (pa_cons pe_str (pa_cons pe_str (pa_cons (pe_lst pa_nil) pa_nil))) (pk_cons pe_str pk_nil)))
          (case hk9 => exact (fun e xs h => by cases h; exact ⟨.tail _ (.tail _ (.tail _ (.head _))), rfl⟩))
          (case hb9 =>
            intro Gc Qc Ec sc en
            have ep1 : Gc p1 = some (.lst (List.replicate 15 (.ref t1))) := sc _ _ fp1
            have ep2 : Gc p2 = some (.lst [.ref t2]) := sc _ _ fp2
            have m1 : Gc t1 = some (.tup [.str "room", .int 1]) := sc _ _ ft1
            have m2 : Gc t2 = some (.tup [.str "halt"]) := sc _ _ ft2
            clear sc
            tm_at "go"
            rename_i q Gq nq sq eq
            have hr : RowsV Gq (fun _ => True) (.ref q) (some ([])) := .lst (by tm_at "hpO") trivial (Nat.le_of_ble_eq_true rfl) (.nil)
            refine okK rfl rfl (ws := [.str "a", .str "data", .ref q, .int 1, .str "open", .bl false]) (fun _ => rfl) ?_
            refine i_pieceE (b := b) (dn := .str "a") (dp := .str "data") (da := .int 1) (ds := .str "open") (by tm_at "gv") (by tm_at "gv") (by tm_at "gv") (by tm_at "gv") hr ?_
            rw [show pieceE k _ _ _ _ _ _ _ = some (kSc k.s, [.str "open"]) from pieceE6 (by decide +kernel) (by decide +kernel) (rowsE_none (by decide +kernel) (by decide +kernel)) (by decide +kernel) (by decide +kernel) (by decide +kernel)]
            exact en.later (by tm_at "same"))
        | 10, hx =>
          cases hx
          refine' ask_g1 (EK := k.l) (k := 9) (N := ["_law_k"]) (fr := []) (ws := []) (some (kNm k.n, [.str "A"])) ?S10 C off .nil ?hF10 ?hC10 ?hD10 ?hb010 ?body10 ?hk10 ?hb10
          (case hF10 => tm_at "hpO")
          (case hC10 => tm_at "hpO")
          (case hD10 => tm_at "defs")
          (case hb010 => exact ⟨_, rfl, fun _ => rfl⟩)
          (case S10 => exact nscope_by (by decide +kernel))
          (case body10 => exact fun A outer s H E hr => (pe_makeK T.mk_Piece G_Piece___init__ (hr.mono (by omega)) (by rfl) T.m_Piece (Classical.choose_spec T.d_Piece___init___4_alignment_scope) LendN.passL (pa_cons pe_str (pa_cons pe_str (pa_cons pe_non pa_nil))) (pk_cons pe_int (pk_cons pe_str pk_nil))))
          (case hk10 => exact (fun e xs h => by cases h; exact ⟨.head _, rfl⟩))
          (case hb10 =>
            intro Gc Qc Ec sc en
            have ep1 : Gc p1 = some (.lst (List.replicate 15 (.ref t1))) := sc _ _ fp1
            have ep2 : Gc p2 = some (.lst [.ref t2]) := sc _ _ fp2
            have m1 : Gc t1 = some (.tup [.str "room", .int 1]) := sc _ _ ft1
            have m2 : Gc t2 = some (.tup [.str "halt"]) := sc _ _ ft2
            clear sc
            tm_at "go"
            have hr : RowsV Gc (fun _ => True) .non none := .no flatK.non
            refine okK rfl rfl (ws := [.str "A", .str "Data", .non, .int 0, .str "", .bl false]) (fun _ => rfl) ?_
            refine i_pieceE (b := b) (dn := .str "A") (dp := .str "Data") (da := .int 0) (ds := .str "") (by tm_at "gv") (by tm_at "gv") (by tm_at "gv") (by tm_at "gv") hr ?_
            rw [show pieceE k _ _ _ _ _ _ _ = some (kNm k.n, [.str "A"]) from pieceE1 (by decide +kernel)]
            exact en.later (by tm_at "same"))
        | 11, hx =>
          cases hx
          refine' ask_g1 (EK := k.l) (k := 9) (N := ["_law_m"]) (fr := []) (ws := []) (some (kRw k.r, [.int 0])) ?S11 C off .nil ?hF11 ?hC11 ?hD11 ?hb011 ?body11 ?hk11 ?hb11
          (case hF11 => tm_at "hpO")
          (case hC11 => tm_at "hpO")
          (case hD11 => tm_at "defs")
          (case hb011 => exact ⟨_, rfl, fun _ => rfl⟩)
          (case S11 => exact nscope_by (by decide +kernel))
          (case body11 => exact fun A outer s H E hr => (pe_makeK T.mk_Piece G_Piece___init__ (hr.mono (by omega)) (by rfl) T.m_Piece (Classical.choose_spec T.d_Piece___init___4_alignment) LendN.passL (pa_cons pe_str (pa_cons pe_str (pa_cons (pe_lst (pa_cons pe_non pa_nil)) pa_nil))) (pk_cons pe_int pk_nil)))
          (case hk11 => exact (fun e xs h => by cases h; exact ⟨.tail _ (.tail _ (.tail _ (.tail _ (.head _)))), rfl⟩))
          (case hb11 =>
            intro Gc Qc Ec sc en
            have ep1 : Gc p1 = some (.lst (List.replicate 15 (.ref t1))) := sc _ _ fp1
            have ep2 : Gc p2 = some (.lst [.ref t2]) := sc _ _ fp2
            have m1 : Gc t1 = some (.tup [.str "room", .int 1]) := sc _ _ ft1
            have m2 : Gc t2 = some (.tup [.str "halt"]) := sc _ _ ft2
            clear sc
            tm_at "go"
            rename_i q Gq nq sq eq
            have hr : RowsV Gq (fun _ => True) (.ref q) (some ([none])) := .lst (by tm_at "hpO") trivial (Nat.le_of_ble_eq_true rfl) (.cons (.flat flatK.non) .nil)
            refine okK rfl rfl (ws := [.str "a", .str "code", .ref q, .int 0, .str "local", .bl false]) (fun _ => rfl) ?_
            refine i_pieceE (b := b) (dn := .str "a") (dp := .str "code") (da := .int 0) (ds := .str "local") (by tm_at "gv") (by tm_at "gv") (by tm_at "gv") (by tm_at "gv") hr ?_
            rw [show pieceE k _ _ _ _ _ _ _ = some (kRw k.r, [.int 0]) from wr_row (by decide +kernel) (by decide +kernel)]
            exact en.later (by tm_at "same"))
        | n + 12, hx => cases hx
      · intro G tr ts sG nt etr hp
        have BG := BHt.same sG
        have x := paired_dt (K := K) BG hp (ds := [.tuple [.str "", .none], .tuple [.str "TooMany", .tuple [.int 16]], .tuple [.str "", .none], .tuple [.str "TooMany", .tuple [.int 16]], .tuple [.str "NotClosing", .tuple []], .tuple [.str "NotClosing", .tuple []], .tuple [.str "NotClosing", .tuple []], .tuple [.str "", .none], .tuple [.str "InvalidRow", .tuple [.int 0]], .tuple [.str "InvalidScope", .tuple [.str "open"]], .tuple [.str "InvalidName", .tuple [.str "A"]], .tuple [.str "InvalidRow", .tuple [.int 0]]]) (.cons .ok (.cons (.er (strK_lit (by decide +kernel)) (Nat.le_of_ble_eq_true rfl) (.cons (.int _) .nil)) (.cons .ok (.cons (.er (strK_lit (by decide +kernel)) (Nat.le_of_ble_eq_true rfl) (.cons (.int _) .nil)) (.cons (.er (strK_lit (by decide +kernel)) (Nat.le_of_ble_eq_true rfl) .nil) (.cons (.er (strK_lit (by decide +kernel)) (Nat.le_of_ble_eq_true rfl) .nil) (.cons (.er (strK_lit (by decide +kernel)) (Nat.le_of_ble_eq_true rfl) .nil) (.cons .ok (.cons (.er (strK_lit (by decide +kernel)) (Nat.le_of_ble_eq_true rfl) (.cons (.int _) .nil)) (.cons (.er (strK_lit (by decide +kernel)) (Nat.le_of_ble_eq_true rfl) (.cons (.str (strK_lit (by decide +kernel))) .nil)) (.cons (.er (strK_lit (by decide +kernel)) (Nat.le_of_ble_eq_true rfl) (.cons (.str (strK_lit (by decide +kernel))) .nil)) (.cons (.er (strK_lit (by decide +kernel)) (Nat.le_of_ble_eq_true rfl) (.cons (.int _) .nil)) .nil))))))))))))
        have l12 : (ts.map V.ref).length ≤ 100000 := by
          rw [List.length_map, Paired.length hp]
          exact Nat.le_of_ble_eq_true rfl
        have y := Dt.lst (SqL.of etr) (BHt.ne nt) l12 x
        have z := dDue.same sG
        refine ⟨_, rfl, ?_⟩
        exact i_sameB (E := fun _ _ _ => False) BG y z (by decide +kernel) fun G2 s2 => q _
end
local macro_rules | `(tactic| tm_at "gv") => `(tactic| (refine' ⟨?d, ?e, fun h => ?s⟩; (case d => first | exact Dt.non | exact Dt.int _ | (refine Dt.str (strK_lit ?_); decide +kernel)); (case e => first | exact Nat.zero_le _ | decide +kernel); (case s => first | exact absurd h (by decide +kernel) | (refine' ⟨5000, .inl ⟨_, ?f, ?l⟩, Nat.le_refl _⟩; (case f => tm_at "flat"); (case l => decide +kernel)))))

open Lend LamX NdefX SupX
/-! ### pieceE: of any kinds' addresses -/
theorem rows_rel (k k' : Ks) (p : Str) (rr : Option (List (Option (List V)))) : (rowsE k p rr = none ∧ rowsE k' p rr = none) ∨ ∃ e e' xs, rowsE k p rr = some (e, xs) ∧ rowsE k' p rr = some (e', xs) ∧ e.code = e'.code ∧ e ∈ k.l ∧ xs.length = e.attrs.length ∧ (∃ i : Int, xs = [.int i]) := by
  cases rr with
  | none => exact .inr ⟨_, _, _, rfl, rfl, rfl, .tail _ (.tail _ (.tail _ (.tail _ (.head _)))), rfl, _, rfl⟩
  | some os =>
    rw [rowsE_some, rowsE_some]
    split
    · exact .inr ⟨_, _, _, rfl, rfl, rfl, .tail _ (.tail _ (.tail _ (.tail _ (.tail _ (.head _))))), rfl, _, rfl⟩
    · cases os.findIdx? (fun o => !rowO p o) with
      | none => exact .inl ⟨rfl, rfl⟩
      | some i => exact .inr ⟨_, _, _, rfl, rfl, rfl, .tail _ (.tail _ (.tail _ (.tail _ (.head _)))), rfl, _, rfl⟩
section
variable {n p a s : V} {dp ds : PyData} {rr : Option (List (Option (List V)))}
theorem pieceE_wy {k k' : Ks} : wy (pieceE k n p a s dp ds rr) = wy (pieceE k' n p a s dp ds rr) := by
  unfold pieceE
  split
  · rfl
  · split
    · rfl
    · rcases rows_rel k k' (strD dp) rr with ⟨h, h'⟩ | ⟨e, e', xs, h, h', hc, _⟩
      · rw [h, h']
        dsimp only
        split
        · rfl
        · split
          · rfl
          · split
            · rfl
            · rfl
      · rw [h, h']
        simp [wy, hc]
theorem pieceE_in {k : Ks} : ∀ e xs, pieceE k n p a s dp ds rr = some (e, xs) → e ∈ k.l ∧ xs.length = e.attrs.length := by
  intro e xs
  unfold pieceE
  split
  · intro h
    cases h
    exact ⟨.head _, rfl⟩
  · split
    · intro h
      cases h
      exact ⟨.tail _ (.head _), rfl⟩
    · rcases rows_rel k k (strD dp) rr with ⟨h, _⟩ | ⟨e1, e', xs1, h, _, _, hm, hl, _⟩
      · rw [h]
        dsimp only
        split
        · intro h
          cases h
          exact ⟨.tail _ (.tail _ (.tail _ (.tail _ (.tail _ (.tail _ (.head _)))))), rfl⟩
        · split
          · intro h
            cases h
            exact ⟨.tail _ (.tail _ (.head _)), rfl⟩
          · split
            · intro h
              cases h
              exact ⟨.tail _ (.tail _ (.tail _ (.head _))), rfl⟩
            · intro h
              cases h
      · rw [h]
        intro h
        cases h
        exact ⟨hm, hl⟩
theorem whyD1 {K : PySem.W.Frag} {H : Hp} {b : Addr} {c : Str} {x : V} {d : PyData} (hc : StrK c) (h : Dt K H b x d) (q : dep d ≤ 1) : ∃ D, WhyD K H b (some (c, [x])) D ∧ dep D ≤ 3 := ⟨_, .er hc (Nat.le_of_ble_eq_true rfl) (.cons h .nil), by
  simp only [dep, depA]
  omega⟩
theorem pieceE_whyD {K : PySem.W.Frag} {H : Hp} {b : Addr} {dn da : PyData} (hn : Dt K H b n dn) (hp : Dt K H b p dp) (ha : Dt K H b a da) (hs : Dt K H b s ds) (en : dep dn ≤ 1) (ep : dep dp ≤ 1) (ea : dep da ≤ 1) (es : dep ds ≤ 1) : ∃ D, WhyD K H b (wy (pieceE k0 n p a s dp ds rr)) D ∧ dep D ≤ 3 := by
  unfold pieceE
  split
  · exact whyD1 (c := "InvalidName") (strK_lit (by decide +kernel)) hn en
  · split
    · exact whyD1 (c := "InvalidPart") (strK_lit (by decide +kernel)) hp ep
    · cases rr with
      | none => exact whyD1 (c := "InvalidRow") (strK_lit (by decide +kernel)) (.int _) (Nat.zero_le _)
      | some os =>
        rw [rowsE_some]
        split
        · rename_i e hh
          split at hh
          · cases hh
            exact whyD1 (c := "TooMany") (strK_lit (by decide +kernel)) (.int _) (Nat.zero_le _)
          · split at hh
            · cases hh
              exact whyD1 (c := "InvalidRow") (strK_lit (by decide +kernel)) (.int _) (Nat.zero_le _)
            · cases hh
        · split
          · exact ⟨_, .er (c := "NotClosing") (strK_lit (by decide +kernel)) (Nat.zero_le _) .nil, by decide +kernel⟩
          · split
            · exact whyD1 (c := "InvalidAlignment") (strK_lit (by decide +kernel)) ha ea
            · split
              · exact whyD1 (c := "InvalidScope") (strK_lit (by decide +kernel)) hs es
              · exact ⟨_, .ok, by decide +kernel⟩
end
/-! ### what stands in the law's turn -/
section
variable {K : PySem.W.Frag} {H H' : Hp} {b p : Addr} {v : V} {d : PyData} {g : Bool}
theorem Dt.flat (h : Dt K H b v d) (z : dep d = 0) : Dt K H' b v d := by
  cases h with
  | non => exact .non
  | bl k => exact .bl k
  | int i => exact .int i
  | str h => exact .str h
  | lst _ _ _ _ => simp [dep] at z
  | tup _ _ _ _ => simp [dep] at z
theorem DtA.flat : ∀ {vs : List V} {ds : List PyData}, DtA K H b vs ds → depA ds = 0 → DtA K H' b vs ds
  | _, _, .nil, _ => .nil
  | _, _, .cons h r, z => .cons (Dt.flat h (by simp [depA] at z; omega)) (DtA.flat r (by simp [depA] at z; omega))
structure GP (K : PySem.W.Frag) (H : Hp) (b p : Addr) (v : V) (d : PyData) (g : Bool) : Prop where
  gv : GV K H b v d g
  nr : ∀ a, v = .ref a → a ≠ p
theorem GP.put (h : GP K H b p v d g) (s : Go.But p H H') : GP K H' b p v d g := by
  refine ⟨⟨?_, h.gv.deep, fun z => ?_⟩, h.nr⟩
  · have z := h.gv.deep
    have nr := h.nr
    cases h.gv.dt with
    | non => exact .non
    | bl k => exact .bl k
    | int i => exact .int i
    | str hz => exact .str hz
    | lst h1 n l r => exact .lst (Go.lB s (nr _ rfl) h1) n l (DtA.flat r (by simp [dep] at z; omega))
    | tup h1 n l r => exact .tup (Go.tB s (nr _ rfl) h1) n l (DtA.flat r (by simp [dep] at z; omega))
  · obtain ⟨c, h1, h2⟩ := h.gv.shows z
    refine ⟨c, ?_, h2⟩
    rcases h1 with h1 | ⟨a, xs, ts, rfl, h1, f, l⟩
    · exact .inl h1
    · rcases h1 with h1 | h1
      · exact .inr ⟨a, xs, ts, rfl, .inl (Go.tB s (h.nr _ rfl) h1), f, l⟩
      · exact .inr ⟨a, xs, ts, rfl, .inr (Go.lB s (h.nr _ rfl) h1), f, l⟩
theorem GP.but (s : Go.But b H H') (h : GP K H b p v d g) : GP K H' b p v d g := ⟨h.gv.but s, h.nr⟩
theorem GP.same (s : Same H H') (h : GP K H b p v d g) : GP K H' b p v d g := ⟨h.gv.same s, h.nr⟩
theorem GP.grow (s : Go.Grow H H') (h : GP K H b p v d g) : GP K H' b p v d g := ⟨h.gv.grow s, h.nr⟩
theorem GP.weak (h : GP K H b p v d false) (g : Bool) : GP K H b p v d g := ⟨⟨h.gv.dt, h.gv.deep, fun _ => h.gv.shows rfl⟩, h.nr⟩
theorem GP.odd (h : Odd K H b v d) (n : ∀ a, v = .ref a → a ≠ p) : GP K H b p v d false := ⟨⟨h.dt, h.deep, fun _ => h.shows⟩, n⟩
theorem RowV.grow {N : Addr → Prop} {o : Option (List V)} (s : Go.Grow H H') (h : RowV H N v o) : RowV H' N v o := by
  cases h with
  | flat h => exact .flat h
  | lst h n => exact .lst (Go.oX s Go.lst_ne h) n
  | tup h l f => exact .tup (Go.oX s Go.tup_ne h) l f
theorem RowsV.grow {N : Addr → Prop} {o : Option (List (Option (List V)))} (s : Go.Grow H H') (h : RowsV H N v o) : RowsV H' N v o := by
  cases h with
  | no h => exact .no h
  | lst h n l p => exact .lst (Go.oX s Go.lst_ne h) n l (Paired.mapP p fun _ _ e => e.grow s)
def S0 (K : PySem.W.Frag) (b p : Addr) (H : Hp) (v : V) : Prop := ∃ d, GP K H b p v d (nmV v)
def S1 (K : PySem.W.Frag) (b p : Addr) (H : Hp) (v : V) : Prop := ∃ d, GP K H b p v d false
def S2 (b p : Addr) (H : Hp) (v : V) : Prop := ∃ rr, RowsV H (fun a => a ≠ b ∧ a ≠ p) v rr
/-- the five values at p -/
structure V5 (K : PySem.W.Frag) (H : Hp) (b p : Addr) : Prop where
  ex : ∃ v0 v1 v2 v3 v4, H p = some (.lst [v0, v1, v2, v3, v4]) ∧ S0 K b p H v0 ∧ S1 K b p H v1 ∧ S2 b p H v2 ∧ S1 K b p H v3 ∧ S1 K b p H v4
theorem V5.but {yb : List V} (s : Go.But b H H') (e : H b = some (.lst yb)) (n : p ≠ b) (h : V5 K H b p) : V5 K H' b p := by
  obtain ⟨v0, v1, v2, v3, v4, hp, ⟨d0, h0⟩, ⟨d1, h1⟩, ⟨rr, h2⟩, ⟨d3, h3⟩, ⟨d4, h4⟩⟩ := h.ex
  exact ⟨v0, v1, v2, v3, v4, s _ _ n hp, ⟨d0, h0.but s⟩, ⟨d1, h1.but s⟩, ⟨rr, h2.but s e fun _ q => q.1⟩, ⟨d3, h3.but s⟩, ⟨d4, h4.but s⟩⟩
theorem V5.same (s : Same H H') (h : V5 K H b p) : V5 K H' b p := by
  obtain ⟨v0, v1, v2, v3, v4, hp, ⟨d0, h0⟩, ⟨d1, h1⟩, ⟨rr, h2⟩, ⟨d3, h3⟩, ⟨d4, h4⟩⟩ := h.ex
  exact ⟨v0, v1, v2, v3, v4, s _ _ hp, ⟨d0, h0.same s⟩, ⟨d1, h1.same s⟩, ⟨rr, h2.same s⟩, ⟨d3, h3.same s⟩, ⟨d4, h4.same s⟩⟩
/-- one of the five is written -/
theorem set5 {Q : Hp → Prop} {x : V} (i : Nat) (h : V5 K H b p) (h0 : i = 0 → S0 K b p H x) (h1 : i = 1 ∨ i = 3 ∨ i = 4 → S1 K b p H x) (h2 : i = 2 → S2 b p H x) (hi : i < 5) (q : ∀ H2, Go.But p H H2 → V5 K H2 b p → Q H2) : rSetL (.ref p) (.int i) x H Q := by
  obtain ⟨v0, v1, v2, v3, v4, hp, ⟨d0, g0⟩, ⟨d1, g1⟩, ⟨rr, g2⟩, ⟨d3, g3⟩, ⟨d4, g4⟩⟩ := h.ex
  have n2 : ∀ a, (a ≠ b ∧ a ≠ p) → a ≠ p := fun _ q => q.2
  match i, hi with
  | 0, _ =>
    obtain ⟨d, hx⟩ := h0 rfl
    exact Go.setL hp rfl rfl (Go.wr fun H2 bu e2 => q H2 bu ⟨_, _, _, _, _, e2, ⟨d, hx.put bu⟩, ⟨d1, g1.put bu⟩, ⟨rr, g2.but bu hp n2⟩, ⟨d3, g3.put bu⟩, ⟨d4, g4.put bu⟩⟩)
  | 1, _ =>
    obtain ⟨d, hx⟩ := h1 (.inl rfl)
    exact Go.setL hp rfl rfl (Go.wr fun H2 bu e2 => q H2 bu ⟨_, _, _, _, _, e2, ⟨d0, g0.put bu⟩, ⟨d, hx.put bu⟩, ⟨rr, g2.but bu hp n2⟩, ⟨d3, g3.put bu⟩, ⟨d4, g4.put bu⟩⟩)
  | 2, _ =>
    obtain ⟨r, hx⟩ := h2 rfl
    exact Go.setL hp rfl rfl (Go.wr fun H2 bu e2 => q H2 bu ⟨_, _, _, _, _, e2, ⟨d0, g0.put bu⟩, ⟨d1, g1.put bu⟩, ⟨r, hx.but bu hp n2⟩, ⟨d3, g3.put bu⟩, ⟨d4, g4.put bu⟩⟩)
  | 3, _ =>
    obtain ⟨d, hx⟩ := h1 (.inr (.inl rfl))
    exact Go.setL hp rfl rfl (Go.wr fun H2 bu e2 => q H2 bu ⟨_, _, _, _, _, e2, ⟨d0, g0.put bu⟩, ⟨d1, g1.put bu⟩, ⟨rr, g2.but bu hp n2⟩, ⟨d, hx.put bu⟩, ⟨d4, g4.put bu⟩⟩)
  | 4, _ =>
    obtain ⟨d, hx⟩ := h1 (.inr (.inr rfl))
    exact Go.setL hp rfl rfl (Go.wr fun H2 bu e2 => q H2 bu ⟨_, _, _, _, _, e2, ⟨d0, g0.put bu⟩, ⟨d1, g1.put bu⟩, ⟨rr, g2.but bu hp n2⟩, ⟨d3, g3.put bu⟩, ⟨d, hx.put bu⟩⟩)
/-- a list of values to draw from -/
structure LsV (K : PySem.W.Frag) (H : Hp) (b p q : Addr) : Prop where
  ex : ∃ ss, H q = some (.lst ss) ∧ q ≠ p ∧ q ≠ b ∧ 0 < ss.length ∧ ss.length ≤ 100 ∧ ∀ v ∈ ss, ∃ d, GP K H b p v d false
theorem LsV.but {q : Addr} (s : Go.But b H H') (h : LsV K H b p q) : LsV K H' b p q := by
  obtain ⟨ss, e, n1, n2, l0, l1, hs⟩ := h.ex
  exact ⟨ss, s _ _ n2 e, n1, n2, l0, l1, fun v m => let ⟨d, hd⟩ := hs v m; ⟨d, hd.but s⟩⟩
theorem LsV.put {q : Addr} (s : Go.But p H H') (h : LsV K H b p q) : LsV K H' b p q := by
  obtain ⟨ss, e, n1, n2, l0, l1, hs⟩ := h.ex
  exact ⟨ss, s _ _ n1 e, n1, n2, l0, l1, fun v m => let ⟨d, hd⟩ := hs v m; ⟨d, hd.put s⟩⟩
theorem LsV.same {q : Addr} (s : Same H H') (h : LsV K H b p q) : LsV K H' b p q := by
  obtain ⟨ss, e, n1, n2, l0, l1, hs⟩ := h.ex
  exact ⟨ss, s _ _ e, n1, n2, l0, l1, fun v m => let ⟨d, hd⟩ := hs v m; ⟨d, hd.same s⟩⟩
end
theorem tabL {T : List (Addr × Str)} {H H' : Hp} {p : Addr} (h : ∃ xs, H p = some (.lst xs)) (s : Go.But p H H') (t : Tabs T H) : Tabs T H' := fun y hy => by
  obtain ⟨xs, h1⟩ := h
  obtain ⟨ps, e1, e2, e3⟩ := t y hy
  have n1 : y.1 ≠ p := fun z => by
    rw [z, h1] at e1
    cases e1
  refine ⟨ps, s _ _ n1 e1, e2, fun pos cv hc => ?_⟩
  obtain ⟨c, q1, q2⟩ := e3 pos cv hc
  refine ⟨c, q1, s _ _ (fun z => ?_) q2⟩
  rw [z, h1] at q2
  have z' := Option.some.inj q2
  unfold CodeO at z'
  cases z'
/-- the turn: t the names, m the model, its rows at lot, p what is given, u and w the lists to draw from -/
structure Turn5 (K : PySem.W.Frag) (TT : List (Addr × Str)) (ts : List Str) (M : PM) (b l t m lot p u w : Addr) (H : Hp) : Prop where
  bag : Bag H b l
  tab : Tabs TT H
  tls : Tls H b t ts
  mod : ModQ H m lot M
  ls : LsV K H b p u
  lw : LsV K H b p w
  v5 : V5 K H b p
structure Apart (b l t lot p : Addr) : Prop where
  pb : p ≠ b
  pl : p ≠ l
  lotb : lot ≠ b
  lotp : lot ≠ p
  tp : t ≠ p
section
variable {K : PySem.W.Frag} {TT : List (Addr × Str)} {ts : List Str} {M : PM} {b l t m lot p u w : Addr} {H H' : Hp}
theorem Turn5.stp (A : Apart b l t lot p) (h : Turn5 K TT ts M b l t m lot p u w H) (s : Stp b H H') (B : Bag H' b l) : Turn5 K TT ts M b l t m lot p u w H' := by
  obtain ⟨yb, eb⟩ := h.bag.lst
  exact ⟨B, tabB h.bag s h.tab, h.tls.stp s, h.mod.stp s h.bag A.lotb, h.ls.but s, h.lw.but s, h.v5.but s eb A.pb⟩
theorem Turn5.same (A : Apart b l t lot p) (h : Turn5 K TT ts M b l t m lot p u w H) (s : Same H H') : Turn5 K TT ts M b l t m lot p u w H' := ⟨h.bag.same s, tabS s h.tab, h.tls.stp (Same.stp s), h.mod.same s, h.ls.same s, h.lw.same s, h.v5.same s⟩
theorem Turn5.put (A : Apart b l t lot p) (h : Turn5 K TT ts M b l t m lot p u w H) (s : Go.But p H H') (v : V5 K H' b p) : Turn5 K TT ts M b l t m lot p u w H' := by
  obtain ⟨v0, v1, v2, v3, v4, hp, _⟩ := h.v5.ex
  obtain ⟨as, e1, e2, e3⟩ := h.mod
  refine ⟨h.bag.but s A.pb.symm A.pl.symm, tabL ⟨_, hp⟩ s h.tab, ⟨s _ _ A.tp h.tls.1, h.tls.2⟩, ⟨as, s _ _ (fun z => ?_) e1, s _ _ A.lotp e2, e3.tups fun a xs e => s _ _ (fun z => ?_) e⟩, h.ls.put s, h.lw.put s, v⟩
  · rw [z, hp] at e1
    cases e1
  · rw [z, hp] at e
    cases e
end

open Lend LamX NdefX SupX
theorem lit_show : ∀ z ∈ (["code", "data", "local", "export", "open", "weak"] : List Str), (decide ((reprText z).length ≤ 5000)) = true := by decide +kernel
theorem lit_ok : ∀ z ∈ (["code", "data", "local", "export", "open", "weak"] : List Str), (decide (z.cps.size ≤ 100000) && z.cps.toList.all fun c => decide (c < 1114112)) = true := by decide +kernel
theorem s1_str {K : PySem.W.Frag} {H : Hp} {b p : Addr} {z : Str} (h : z ∈ (["code", "data", "local", "export", "open", "weak"] : List Str)) : S1 K b p H (.str z) := by
  have h1 := of_decide_eq_true (lit_show z h)
  exact ⟨.str z, ⟨⟨.str (strK_lit (lit_ok z h)), Nat.zero_le _, fun _ => ⟨5000, .inl ⟨_, .str z (Nat.le_trans h1 (by decide)), h1⟩, Nat.le_refl _⟩⟩, fun a e => nomatch e⟩⟩
theorem s1_int {K : PySem.W.Frag} {H : Hp} {b p : Addr} {i : Int} (h : i ∈ ([1, 2, 4, 8, 16] : List Int)) : S1 K b p H (.int i) := by
  have q : -1 ≤ i ∧ i < 100 := by
    simp only [List.mem_cons, List.not_mem_nil, or_false] at h
    omega
  exact ⟨.int i, ⟨⟨.int i, Nat.zero_le _, fun _ => shows_int q.1 q.2⟩, fun a e => nomatch e⟩⟩
theorem s0_nm {K : PySem.W.Frag} {H : Hp} {b p : Addr} {z : Str} (h : Nm z) : S0 K b p H (.str z) := ⟨.str z, ⟨⟨.str h.strK, Nat.zero_le _, fun e => absurd e (by rw [nmV_of h]; decide)⟩, fun a e => nomatch e⟩⟩
theorem s2_rows {H : Hp} {b p m lot : Addr} {ts : List Str} {M : PM} (h : ModQ H m lot M) (hz : ∀ z ∈ ts, Nm z) (ok : M.Ok ts) (n1 : lot ≠ b) (n2 : lot ≠ p) : S2 b p H (.ref lot) := by
  obtain ⟨as, _, e2, R⟩ := h
  have A : AllRow H (fun a => a ≠ b ∧ a ≠ p) (as.map V.ref) := fun x hx => by
    obtain ⟨j, hj⟩ := List.mem_iff_getElem?.mp hx
    obtain ⟨a, xs, rfl, _, h2, h3⟩ := R.get hj
    have hm := List.mem_of_getElem? h2
    have q := (ok.rw xs hm).rwy.ok (K := default) (H := H) (b := b) hz
    exact ⟨_, .tup h3 (by omega) fun y hy => q.1 0 y hy⟩
  obtain ⟨os, hos⟩ := A.pair
  exact ⟨some os, .lst e2 ⟨n1, n2⟩ (by rw [List.length_map, R.len]; have := ok.ln; omega) hos⟩
theorem Turn5.pn {K : PySem.W.Frag} {TT : List (Addr × Str)} {ts : List Str} {M : PM} {b l t m lot p u w : Addr} {H : Hp} (h : Turn5 K TT ts M b l t m lot p u w H) : H p ≠ none := fun z => by
  obtain ⟨v0, v1, v2, v3, v4, hp, _⟩ := h.v5.ex
  rw [z] at hp
  cases hp
theorem RowsV.mono {H : Hp} {N N2 : Addr → Prop} {v : V} {o : Option (List (Option (List V)))} (n : ∀ a, N a → N2 a) (h : RowsV H N v o) : RowsV H N2 v o := by
  cases h with
  | no h => exact .no h
  | lst h k l p =>
    refine .lst h (n _ k) l (Paired.mapP p fun _ _ e => ?_)
    cases e with
    | flat q => exact .flat q
    | lst q k => exact .lst q (n _ k)
    | tup q l f => exact .tup q l f
theorem gp_of {K : PySem.W.Frag} {H : Hp} {b p : Addr} {v : V} (o : ∃ d, Odd K H b v d) (n : ∀ a, v = .ref a → a ≠ p) : ∃ d, GP K H b p v d false := let ⟨d, hd⟩ := o; ⟨d, .odd hd n⟩
section
variable {P : Program} {w : World} {K : PySem.W.Frag} {mg : Str → Option Value} {base : Heap} {Z : Fs}
def sp_law (K : PySem.W.Frag) (TT : List (Addr × Str)) : Sp := fun vs H Q _ => ∃ (a : Addr) (ns : List Int), vs = [.ref a] ∧ SqL K H a (ns.map V.int) ∧ ns.length ≤ 63 ∧ Tabs TT H ∧ ∀ H' : Hp, Q (.bl true) H'
theorem ok_law {k : Ks} {c1 p1 c2 p2 : Addr} {TT : List (Addr × Str)} (T : Txt K w mg Z) (L : Lg P K mg k)
    (hc1 : Z.d_law_written_so.code = .ref c1) (TB1 : TabB base mg c1 p1) (hm1 : (p1, QL "_law_written_so") ∈ TT) (hu1 : ∀ p ∈ TT, p.1 = p1 → p.2 = QL "_law_written_so")
    (hc : Z.d_law.code = .ref c2) (TB_law : TabB base mg c2 p2) (hm_law : (p2, QL "law") ∈ TT) (hu_law : ∀ p ∈ TT, p.1 = p2 → p.2 = QL "law") :
    FnOk P w K mg base CX0 17 Z.a_law Z.d_law ["_law_script"] (sp_law K TT) := by
  have G_Piece___init__ := ok_Piece_init (P := P) (base := base) T L
  have G_law_bag := ok_law_bag (P := P) (base := base) T
  have G_law_draw := ok_law_draw (P := P) (base := base) T
  have G_law_of := ok_law_of (P := P) (base := base) T
  have G_law_odd := ok_law_odd (P := P) (base := base) T
  have G_law_titles : FnOk P w K mg base CX0 3 Z.a_law_titles Z.d_law_titles ["_law_bag_here", "_law_many"] (sp_law_titles K) := ok_law_titles T
  have G_law_piece_model : FnOk P w K mg base CX0 5 Z.a_law_piece_model Z.d_law_piece_model ["_law_bag_here", "_law_title", "_law_titles_here", "_law_most"] (sp_model K) := ok_law_piece_model T
  have G_law_wrong_rows := ok_law_wrong_rows (P := P) (base := base) T
  have G_law_due := ok_law_due (P := P) (base := base) T
  have G_law_whys := ok_whys (P := P) (w := w) (base := base) T L
  have G_law_same := ok_law_same (P := P) (base := base) T 4
  have G_law_written_so := ok_law_written_so (P := P) (base := base) T L hc1 TB1 hm1 hu1
  obtain ⟨oc, od, kV, doc, pm, an, cdv, ct, osl, e, lk, hcd⟩ := T.F_law.ex
  rw [e] at lk hc ⊢
  obtain rfl : cdv = .ref c2 := hc
  refine fn_of lk hcd sc_law (fun vs H Q E h => ?_) (fun A outer s H vs Q E hr h => ?_)
  · obtain ⟨a, ns, rfl, _⟩ := h
    rfl
  · obtain ⟨a, ns, rfl, hS, hlen, hT, k'⟩ := h
    refine ⟨_, PSs.nox (pss_cons (ps_set (i := 1) sc_law.nd rfl (Or.inl rfl) (pe_call G_law_bag (hr.mono (by omega)) (by rfl) T.m_law_bag T.F_law_bag.kp T.b_law_bag .nil pass0 (pa_cons (pv 0) pa_nil)))
      (pss_cons (ps_set (i := 2) sc_law.nd rfl (Or.inl rfl) (pe_call G_law_titles (hr.mono (by omega)) (by rfl) T.m_law_titles T.F_law_titles.kp T.b_law_titles .nil pass0 (pa_cons (pv 1) (pa_cons pe_int pa_nil))))
      (pss_cons (ps_for PassesOwn.never rfl (pi_range1 (by rfl) T.n_range (pa_cons pe_int pa_nil)) (pg_name (i := 3) sc_law.nd rfl (Or.inl rfl)) (pss_cons (ps_set (i := 4) sc_law.nd rfl (Or.inr rfl) (pe_call G_law_piece_model (hr.mono (by omega)) (by rfl) T.m_law_piece_model T.F_law_piece_model.kp T.b_law_piece_model .nil pass0 (pa_cons (pv 1) (pa_cons (pe_ix (ix_list : IxR _ (rIxL K)) (pv 2) pe_int (fun _ _ => rfl)) (pa_cons (pv 2) (pa_cons pe_int pa_nil))))))
      (pss_cons (ps_set (i := 5) sc_law.nd rfl (Or.inl rfl) (pe_lst (pa_cons pe_int (pa_cons pe_int (pa_cons pe_int (pa_cons (pe_un un_neg pe_int) (pa_cons pe_bl (pa_cons pe_non (pa_cons pe_str (pa_cons (pe_tup (pa_cons pe_int pa_nil)) (pa_cons (pe_lst (pa_cons pe_int pa_nil)) pa_nil)))))))))))
      (pss_cons (ps_set (i := 6) sc_law.nd rfl (Or.inl rfl) (pe_lst (pa_cons pe_str (pa_cons pe_str (pa_cons pe_str (pa_cons pe_str (pa_cons pe_non (pa_cons pe_int (pa_cons (pe_tup (pa_cons pe_str pa_nil)) (pa_cons (pe_lst (pa_cons pe_str pa_nil)) pa_nil))))))))))
      (C8.pss_cut (ps_set (i := 7) sc_law.nd rfl (Or.inr rfl) (pe_callTy Go.c_list (by rfl) T.n_list boot_list (pa_cons (pe_slice (sl_tup : SlR _ (rSlT K)) (pv 4) po_none (po_some pe_int)) pa_nil)))
      (C8.pss_cut (ps_if (pt_cmpR op_eq (pe_call G_law_draw (hr.mono (by omega)) (by rfl) T.m_law_draw T.F_law_draw.kp T.b_law_draw .nil pass0 (pa_cons (pv 1) (pa_cons pe_int pa_nil))) pe_int (nomark _)) (pss_one (ps_asg (pe_call G_law_odd (hr.mono (by omega)) (by rfl) T.m_law_odd T.F_law_odd.kp T.b_law_odd .nil pass0 (pa_cons (pv 1) (pa_cons (pe_lst (pa_cons pe_str (pa_cons pe_str (pa_cons (pe_tup (pa_cons pe_str pa_nil)) pa_nil)))) pa_nil))) (pg_sub (pv 7) pe_int set_list))) pss_nil)
      (C8.pss_cut (ps_if (pt_cmpR op_eq (pe_call G_law_draw (hr.mono (by omega)) (by rfl) T.m_law_draw T.F_law_draw.kp T.b_law_draw .nil pass0 (pa_cons (pv 1) (pa_cons pe_int pa_nil))) pe_int (nomark _)) (pss_one (ps_asg (pe_call G_law_odd (hr.mono (by omega)) (by rfl) T.m_law_odd T.F_law_odd.kp T.b_law_odd .nil pass0 (pa_cons (pv 1) (pa_cons (pe_lst (pa_cons pe_str (pa_cons pe_str (pa_cons pe_str (pa_cons (pe_lst (pa_cons pe_str pa_nil)) (pa_cons (pe_tup (pa_cons pe_str pa_nil)) pa_nil)))))) pa_nil))) (pg_sub (pv 7) pe_int set_list))) pss_nil)
      (C8.pss_cut (ps_if (pt_cmpR op_eq (pe_call G_law_draw (hr.mono (by omega)) (by rfl) T.m_law_draw T.F_law_draw.kp T.b_law_draw .nil pass0 (pa_cons (pv 1) (pa_cons pe_int pa_nil))) pe_int (nomark _)) (pss_one (ps_asg (pe_call G_law_wrong_rows (hr.mono (by omega)) (by rfl) T.m_law_wrong_rows T.F_law_wrong_rows.kp T.b_law_wrong_rows .nil pass0 (pa_cons (pv 1) (pa_cons (pv 4) pa_nil))) (pg_sub (pv 7) pe_int set_list))) pss_nil)
      (C8.pss_cut (ps_if (pt_cmpR op_eq (pe_call G_law_draw (hr.mono (by omega)) (by rfl) T.m_law_draw T.F_law_draw.kp T.b_law_draw .nil pass0 (pa_cons (pv 1) (pa_cons pe_int pa_nil))) pe_int (nomark _)) (pss_one (ps_asg (pe_call G_law_of (hr.mono (by omega)) (by rfl) T.m_law_of T.F_law_of.kp T.b_law_of .nil pass0 (pa_cons (pv 1) (pa_cons (pv 5) pa_nil))) (pg_sub (pv 7) pe_int set_list))) pss_nil)
      (C8.pss_cut (ps_if (pt_cmpR op_eq (pe_call G_law_draw (hr.mono (by omega)) (by rfl) T.m_law_draw T.F_law_draw.kp T.b_law_draw .nil pass0 (pa_cons (pv 1) (pa_cons pe_int pa_nil))) pe_int (nomark _)) (pss_one (ps_asg (pe_call G_law_of (hr.mono (by omega)) (by rfl) T.m_law_of T.F_law_of.kp T.b_law_of .nil pass0 (pa_cons (pv 1) (pa_cons (pv 6) pa_nil))) (pg_sub (pv 7) pe_int set_list))) pss_nil)
      (pss_cons (ps_set (i := 8) sc_law.nd rfl (Or.inl rfl) (pe_lst (pa_cons (Lend.pe_lam0 (T := TT) TB_law rfl hm_law hu_law (LendN.free_ok (by decide +kernel)) rfl) (pa_cons (Lend.pe_lam1 (T := TT) TB_law rfl hm_law hu_law (LendN.free_ok (by decide +kernel)) rfl rfl pe_int) pa_nil))))
      (pss_cons (ps_set (i := 9) sc_law.nd rfl (Or.inl rfl) (pe_call G_law_due (hr.mono (by omega)) (by rfl) T.m_law_due T.F_law_due.kp T.b_law_due .nil pass0 (pa_cons (pv 7) pa_nil)))
      (pss_one (ps_if (pt_not (pt_val (pe_call G_law_same (hr.mono (by omega)) (by rfl) T.m_law_same T.F_law_same.kp T.b_law_same .nil pass0 (pa_cons (LendN.pe_callW [("_law_model", 4), ("_law_given", 7)] G_law_whys (hr.mono (by omega)) (by rfl) T.m_law_whys T.F_law_whys.kp T.b_law_whys .nil (pa_cons (pv 8) pa_nil)) (pa_cons (pe_lst (pa_cons (pv 9) (pa_cons (pv 9) pa_nil))) pa_nil))))) (pss_one (ps_ret pe_bl)) pss_nil))))))))))))))
      (pss_one (ps_ret (pe_call0 G_law_written_so (hr.mono (by omega)) (by rfl) T.m_law_written_so T.F_law_written_so.kp T.b_law_written_so .nil pass0 )))))), ?_⟩
    rw [show L2.start N_law [V.ref a] = [some (V.ref a), none, none, none, none, none, none, none, none, none] from rfl]
    try dsimp only [cxOf, Cx.nox]
    tm_at "go"
    rename_i G1 b l s1 nb nl B1
    refine ⟨b, l, 3, rfl, B1, by omega, fun G2 t zs s2 B2 nt tb tl et hz3 hzn hzd => ?_⟩
    have T2 : Tabs TT G2 := tabB B1 s2 (tabS s1 hT)
    have TL : Tls G2 b t zs := ⟨et, tb, by omega, by omega⟩
    clear et nt hzd s2 B1 s1
    tm_at "go"
    refine Go.for_w walk_range (fun i σ H' => ∃ v0 v3 v4 v5 v6 v7 v8 v9, σ = [v0, some (.ref b), some (.ref t), v3, v4, v5, v6, v7, v8, v9] ∧ Bag H' b l ∧ Tabs TT H' ∧ Tls H' b t zs) ⟨_, _, _, _, _, _, _, _, rfl, B2, T2, TL⟩ (fun _ _ _ _ _ => trivial) ?_ ?_
    · clear B2 T2 TL hS
      rintro i v σ H4 H5 hi ⟨v0, v3, v4, v5, v6, v7, v8, v9, rfl, B4, T4, TL4⟩ ⟨rfl, rfl⟩
      obtain ⟨z0, z1, z2, rfl⟩ : ∃ z0 z1 z2, zs = [z0, z1, z2] := by
        match zs, hz3 with
        | [z0, z1, z2], _ => exact ⟨z0, z1, z2, rfl⟩
      have e4 := TL4.1
      tm_at "go"
      refine ⟨b, l, t, [z0, z1, z2], z0, 4, rfl, B4, TL4, hzn, .head _, by decide, by decide, fun G3 m lot M s3 B3 nl3 lb ll hM ok hn => ?_⟩
      have T3 : Tabs TT G3 := tabB B4 s3 T4
      have TL3 : Tls G3 b t [z0, z1, z2] := TL4.stp s3
      clear e4 B4 T4 TL4 s3 nl3
      tm_at "go"
      refine Go.cut (fun σ' H' => ∃ u w p, σ' = [v0, some (.ref b), some (.ref t), some (.int (0 + (i : Int))), some (.ref m), some (.ref u), some (.ref w), some (.ref p), v8, v9] ∧ Apart b l t lot p ∧ Turn5 K TT [z0, z1, z2] M b l t m lot p u w H') ?_ ?_
      · obtain ⟨as, em, el, R⟩ := id hM
        tm_at "go"
        rename_i q1 A1 n1 s1 e1 b1 l1 q2 A2 n2 s2 e2 b2 l2 q3 A3 n3 s3 e3 b3 l3 q4 A4 n4 s4 e4 b4 l4 q5 A5 n5 s5 e5 b5 l5 q6 A6 n6 s6 e6 b6 l6 q7 A7 n7 s7 e7 b7 l7 q8 A8 n8 s8 e8 b8 l8
        have e8 : A8 q8 = some (.lst [.str M.name, .str M.part, .ref lot, .int M.al, .str M.scope]) := e8
        have lotp : lot ≠ q8 := ne_of_none (show A7 lot = some _ by tm_at "hpO") n8
        have tp : t ≠ q8 := ne_of_none (show A7 t = some _ from (by have z := TL3.1; tm_at "hpO")) n8
        have up : q3 ≠ q8 := ne_of_none (show A7 q3 = some _ by tm_at "hpO") n8
        have wp : q6 ≠ q8 := ne_of_none (show A7 q6 = some _ by tm_at "hpO") n8
        have hu : A8 q3 = some (.lst [.int 3, .int 0, .int 32, .int (-1), .bl true, .non, .str "1", .ref q1, .ref q2]) := by tm_at "hpO"
        have hw : A8 q6 = some (.lst [.str "open", .str "", .str "Local", .str "code", .non, .int 3, .ref q4, .ref q5]) := by tm_at "hpO"
        have gu : ∀ v ∈ [V.int 3, .int 0, .int 32, .int (-1), .bl true, .non, .str "1", .ref q1, .ref q2], ∃ d, GP K A8 b q8 v d false := by
          (tm_at "all"; all_goals (refine' gp_of ?o ?n; (case o => tm_at "mkOdd"); (case n => (intro a e; cases e <;> exact ne_of_none (show A7 _ = some _ by tm_at "hpO") n8))))
        have gw : ∀ v ∈ [V.str "open", .str "", .str "Local", .str "code", .non, .int 3, .ref q4, .ref q5], ∃ d, GP K A8 b q8 v d false := by
          (tm_at "all"; all_goals (refine' gp_of ?o ?n; (case o => tm_at "mkOdd"); (case n => (intro a e; cases e <;> exact ne_of_none (show A7 _ = some _ by tm_at "hpO") n8))))
        have B8 : Bag A8 b l := by tm_at "bag"
        have T8 : Tabs TT A8 := by tm_at "tabs"
        have sm : Same G3 A8 := by tm_at "same"
        have hM8 : ModQ A8 m lot M := hM.same sm
        have pt : M.part ∈ (["code", "data", "local", "export", "open", "weak"] : List Str) := by
          rcases ok.pt with h | h
          · rw [h]; exact .head _
          · rw [h]; exact .tail _ (.head _)
        exact ⟨q3, q6, q8, rfl, ⟨b8, l8, lb, lotp, tp⟩, B8, T8, TL3.stp (Same.stp sm), hM8, ⟨_, hu, up, b3, Nat.le_of_ble_eq_true rfl, Nat.le_of_ble_eq_true rfl, gu⟩, ⟨_, hw, wp, b6, Nat.le_of_ble_eq_true rfl, Nat.le_of_ble_eq_true rfl, gw⟩,
          ⟨_, _, _, _, _, e8, s0_nm ok.nm, s1_str pt, s2_rows hM8 hzn ok lb lotp, s1_int ok.al, s1_str (.tail _ (.tail _ ok.sc))⟩⟩
      · rintro σ' H0 ⟨u, w', p, rfl, AP, U⟩
        clear hM T3 TL3
        refine Go.cut (fun σ' H' => σ' = [v0, some (.ref b), some (.ref t), some (.int (0 + (i : Int))), some (.ref m), some (.ref u), some (.ref w'), some (.ref p), v8, v9] ∧ Turn5 K TT [z0, z1, z2] M b l t m lot p u w' H') ?_ ?_
        · have B0 := U.bag
          tm_at "go"
          · rename_i G1 vd s1 B1 d0 d1 hz q1 A1 n1 sA1 e1 b1 l1 q2 A2 n2 sA2 e2 b2 l2 Go vo dod so Bo Oo Ro
            have U1 := U.stp AP s1 B1
            have Ua := ((U1.same AP sA1).same AP sA2)
            have Uo := Ua.stp AP so Bo
            have nr : ∀ a, vo = .ref a → a ≠ p := fun a ea ez => by
              rcases Ro a ea with h | h
              · rw [ez] at h
                exact Ua.pn h
              · simp only [List.mem_cons, List.not_mem_nil, or_false, reduceCtorEq, false_or, V.ref.injEq] at h
                rw [ez] at h
                rw [← h] at n1
                exact U1.pn n1
            exact set5 0 Uo.v5 (fun _ => ⟨_, (GP.odd Oo nr).weak _⟩) (fun _ => ⟨_, GP.odd Oo nr⟩) (by omega) (by omega) fun H2 bu v5 => ⟨rfl, Uo.put AP bu v5⟩
          · rename_i G1 vd s1 B1 d0 d1 hz
            exact U.stp AP s1 B1
        · rintro σ' H1 ⟨rfl, U1n⟩
          clear U
          refine Go.cut (fun σ' H' => σ' = [v0, some (.ref b), some (.ref t), some (.int (0 + (i : Int))), some (.ref m), some (.ref u), some (.ref w'), some (.ref p), v8, v9] ∧ Turn5 K TT [z0, z1, z2] M b l t m lot p u w' H') ?_ ?_
          · have B0 := U1n.bag
            tm_at "go"
            · rename_i G1 vd s1 B1 d0 d1 hz q1 A1 n1 sA1 e1 b1 l1 q2 A2 n2 sA2 e2 b2 l2 q3 A3 n3 sA3 e3 b3 l3 Go vo dod so Bo Oo Ro
              have U1 := U1n.stp AP s1 B1
              have Ua := (((U1.same AP sA1).same AP sA2).same AP sA3)
              have Uo := Ua.stp AP so Bo
              have nr : ∀ a, vo = .ref a → a ≠ p := fun a ea ez => by
                rcases Ro a ea with h | h
                · rw [ez] at h
                  exact Ua.pn h
                · simp only [List.mem_cons, List.not_mem_nil, or_false, reduceCtorEq, false_or, V.ref.injEq] at h
                  rw [ez] at h
                  rcases h with h | h
                  · rw [← h] at n1
                    exact U1.pn n1
                  · rw [← h] at n2
                    exact (U1.same AP sA1).pn n2
              exact set5 1 Uo.v5 (fun _ => ⟨_, (GP.odd Oo nr).weak _⟩) (fun _ => ⟨_, GP.odd Oo nr⟩) (by omega) (by omega) fun H2 bu v5 => ⟨rfl, Uo.put AP bu v5⟩
            · rename_i G1 vd s1 B1 d0 d1 hz
              exact U1n.stp AP s1 B1
          · rintro σ' H2 ⟨rfl, U2n⟩
            clear U1n
            refine Go.cut (fun σ' H' => σ' = [v0, some (.ref b), some (.ref t), some (.int (0 + (i : Int))), some (.ref m), some (.ref u), some (.ref w'), some (.ref p), v8, v9] ∧ Turn5 K TT [z0, z1, z2] M b l t m lot p u w' H') ?_ ?_
            · have B0 := U2n.bag
              tm_at "go"
              · rename_i G1 vd s1 B1 d0 d1 hz
                have U1 := U2n.stp AP s1 B1
                refine ⟨b, l, m, lot, [z0, z1, z2], M, rfl, B1, U1.mod, hzn, ok, lb, fun G2 v rr s2 B2 hv => ?_⟩
                have U2 := U1.stp AP s2 B2
                tm_at "go"
                exact set5 2 U2.v5 (by omega) (by omega) (fun _ => ⟨rr, hv.mono fun a q => ⟨q.1, fun z => U1.pn (z ▸ q.2)⟩⟩) (by omega) fun H2 bu v5 => ⟨rfl, U2.put AP bu v5⟩
              · rename_i G1 vd s1 B1 d0 d1 hz
                exact U2n.stp AP s1 B1
            · rintro σ' H3 ⟨rfl, U3n⟩
              clear U2n
              refine Go.cut (fun σ' H' => σ' = [v0, some (.ref b), some (.ref t), some (.int (0 + (i : Int))), some (.ref m), some (.ref u), some (.ref w'), some (.ref p), v8, v9] ∧ Turn5 K TT [z0, z1, z2] M b l t m lot p u w' H') ?_ ?_
              · have B0 := U3n.bag
                tm_at "go"
                · rename_i G1 vd s1 B1 d0 d1 hz
                  have U1 := U3n.stp AP s1 B1
                  obtain ⟨ss, eu, nup, nub, l0, l1, hs⟩ := U1.ls.ex
                  refine i_of (b := b) (l := l) B1 (SqL.of eu) nub l0 (by omega) fun G2 v s2 B2 hv => ?_
                  obtain ⟨d, hd⟩ := hs v hv
                  have U2 := U1.stp AP s2 B2
                  tm_at "go"
                  exact set5 3 U2.v5 (by omega) (fun _ => ⟨d, hd.but s2⟩) (by omega) (by omega) fun H2 bu v5 => ⟨rfl, U2.put AP bu v5⟩
                · rename_i G1 vd s1 B1 d0 d1 hz
                  exact U3n.stp AP s1 B1
              · rintro σ' H4 ⟨rfl, U4n⟩
                clear U3n
                refine Go.cut (fun σ' H' => σ' = [v0, some (.ref b), some (.ref t), some (.int (0 + (i : Int))), some (.ref m), some (.ref u), some (.ref w'), some (.ref p), v8, v9] ∧ Turn5 K TT [z0, z1, z2] M b l t m lot p u w' H') ?_ ?_
                · have B0 := U4n.bag
                  tm_at "go"
                  · rename_i G1 vd s1 B1 d0 d1 hz
                    have U1 := U4n.stp AP s1 B1
                    obtain ⟨ss, eu, nup, nub, l0, l1, hs⟩ := U1.lw.ex
                    refine i_of (b := b) (l := l) B1 (SqL.of eu) nub l0 (by omega) fun G2 v s2 B2 hv => ?_
                    obtain ⟨d, hd⟩ := hs v hv
                    have U2 := U1.stp AP s2 B2
                    tm_at "go"
                    exact set5 4 U2.v5 (by omega) (fun _ => ⟨d, hd.but s2⟩) (by omega) (by omega) fun H2 bu v5 => ⟨rfl, U2.put AP bu v5⟩
                  · rename_i G1 vd s1 B1 d0 d1 hz
                    exact U4n.stp AP s1 B1
                · rintro σ' H5 ⟨rfl, U5n⟩
                  clear U4n
                  have B0 := U5n.bag
                  have T0 := U5n.tab
                  obtain ⟨v0x, v1x, v2x, v3x, v4x, hp, ⟨dn, g0⟩, ⟨dp, g1⟩, ⟨rr, g2⟩, ⟨da, g3⟩, ⟨ds, g4⟩⟩ := U5n.v5.ex
                  obtain ⟨as, em, el, R⟩ := U5n.mod
                  have eT := U5n.tls.1
                  have TLr := U5n.tls.2
                  tm_at "go"
                  rename_i pasks Gm mm sm emm mb ml
                  have grow : Go.Grow H5 Gm := by tm_at "grow"
                  have hpG : Gm p = some (.lst [v0x, v1x, v2x, v3x, v4x]) := by tm_at "hpO"
                  have emG : Gm m = some (.tup [.str M.name, .str M.part, .ref lot, .int M.al, .str M.scope, .bl M.keep]) := by tm_at "hpO"
                  have eTG : Gm t = some (.lst ([z0, z1, z2].map V.str)) := by tm_at "hpO"
                  have o0 := g0.grow grow
                  have o1 := g1.grow grow
                  have o2 := g2.grow grow
                  have o3 := g3.grow grow
                  have o4 := g4.grow grow
                  refine ⟨p, b, v0x, v1x, v2x, v3x, v4x, dn, dp, da, ds, _, rr, rfl, SqL.of hpG, o0.gv.dt, o1.gv.dt, o3.gv.dt, o4.gv.dt, o0.gv.deep, o1.gv.deep, o3.gv.deep, o4.gv.deep, o2, fun Gd td sd nd wd => ?_⟩
                  have x0 := o0.same sd
                  have x1 := o1.same sd
                  have x2 := o2.same sd
                  have x3 := o3.same sd
                  have x4 := o4.same sd
                  have hpd := sd _ _ hpG
                  have emd := sd _ _ emG
                  have eTd := sd _ _ eTG
                  have Bm : Bag Gm b l := by tm_at "bag"
                  have Tm : Tabs TT Gm := by tm_at "tabs"
                  have Bd : Bag Gd b l := Bm.same sd
                  have Td : Tabs TT Gd := tabS sd Tm
                  tm_at "go"
                  refine whysW [wy (pieceE k0 v0x v1x v3x v4x dp ds rr), wy (pieceE k0 v0x v1x v3x v4x dp ds rr)] (by tm_at "hpL") rfl (Nat.le_of_ble_eq_true rfl) ?_ ?_ ?_
                  · intro y mm
                    rcases List.mem_cons.mp mm with rfl | mm
                    · exact ⟨rfl, ⟨_, rfl⟩, (show List.lookup _ (defScope s_law).names = some .cell by decide +kernel), rfl⟩
                    rcases List.mem_cons.mp mm with rfl | mm
                    · exact ⟨rfl, ⟨_, rfl⟩, (show List.lookup _ (defScope s_law).names = some .cell by decide +kernel), rfl⟩
                    cases mm
                  · intro cs C off n x' hx
                    match n, hx with
                    | 0, hx =>
                        cases hx
                        refine' (ask_g0 (EK := k.l) (k := 9) (N := ["_law_given", "_law_model"]) (fr := ["_law_given", "_law_model"]) (ws := [.ref p, .ref m]) (pieceE k v0x v1x v3x v4x dp ds rr) ?S0 C off (.cons (C.cap (.tail _ (.head _)) rfl) (.cons (C.cap (.head _) rfl) .nil)) ?hF0 ?hC0 ?hD0 ?hb00 ?body0 pieceE_in ?hb0).to pieceE_wy
                        (case hF0 => tm_at "hpO")
                        (case hC0 => tm_at "hpO")
                        (case hD0 => tm_at "defs")
                        (case hb00 => rfl)
                        (case S0 => exact nscope_by (by decide +kernel))
                        (case body0 => exact fun A outer s H E hr => (pe_makeK T.mk_Piece G_Piece___init__ (hr.mono (by omega)) (by rfl) T.m_Piece (Classical.choose_spec T.d_Piece___init___4_alignment_scope_keep) LendN.passL (pa_cons (pe_ix (ix_list : IxR _ (rIxL K)) (pv 0) pe_int (fun _ _ => rfl)) (pa_cons (pe_ix (ix_list : IxR _ (rIxL K)) (pv 0) pe_int (fun _ _ => rfl)) (pa_cons (pe_ix (ix_list : IxR _ (rIxL K)) (pv 0) pe_int (fun _ _ => rfl)) pa_nil))) (pk_cons (pe_ix (ix_list : IxR _ (rIxL K)) (pv 0) pe_int (fun _ _ => rfl)) (pk_cons (pe_ix (ix_list : IxR _ (rIxL K)) (pv 0) pe_int (fun _ _ => rfl)) (pk_cons (pe_ix (ix_tup : IxR _ (rIxT K)) (pv 1) pe_int (fun _ _ => rfl)) pk_nil)))))
                        (case hb0 =>
                          intro Gc Qc Ec sc en
                          have hpc : Gc p = some (.lst [v0x, v1x, v2x, v3x, v4x]) := sc _ _ hpd
                          have emc : Gc m = some (.tup [.str M.name, .str M.part, .ref lot, .int M.al, .str M.scope, .bl M.keep]) := sc _ _ emd
                          have c0 := x0.same sc
                          have c1 := x1.same sc
                          have c2 := x2.same sc
                          have c3 := x3.same sc
                          have c4 := x4.same sc
                          clear sc
                          tm_at "go"
                          refine okK rfl rfl (ws := [v0x, v1x, v2x, v3x, v4x, .bl M.keep]) (fun _ => rfl) ?_
                          exact i_pieceE (b := b) c0.gv (c1.weak _).gv (c3.weak _).gv (c4.weak _).gv c2 en)
                    | 1, hx =>
                        cases hx
                        refine' (ask_g1 (EK := k.l) (k := 9) (N := ["_law_a", "_law_given"]) (fr := ["_law_given"]) (ws := [.ref p]) (pieceE k v0x v1x v3x v4x dp ds rr) ?S1 C off (.cons (C.cap (.tail _ (.head _)) rfl) .nil) ?hF1 ?hC1 ?hD1 ?hb01 ?body1 pieceE_in ?hb1).to pieceE_wy
                        (case hF1 => tm_at "hpO")
                        (case hC1 => tm_at "hpO")
                        (case hD1 => tm_at "defs")
                        (case hb01 => exact ⟨_, rfl, fun _ => rfl⟩)
                        (case S1 => exact nscope_by (by decide +kernel))
                        (case body1 => exact fun A outer s H E hr => (pe_makeK0 T.mk_Piece G_Piece___init__ (hr.mono (by omega)) (by rfl) T.m_Piece (Classical.choose_spec T.d_Piece___init___1_scope_rows_name_alignment_part) LendN.passL (pk_cons (pe_ix (ix_list : IxR _ (rIxL K)) (pv 1) pe_int (fun _ _ => rfl)) (pk_cons (pe_ix (ix_list : IxR _ (rIxL K)) (pv 1) pe_int (fun _ _ => rfl)) (pk_cons (pe_ix (ix_list : IxR _ (rIxL K)) (pv 1) pe_int (fun _ _ => rfl)) (pk_cons (pe_ix (ix_list : IxR _ (rIxL K)) (pv 1) pe_int (fun _ _ => rfl)) (pk_cons (pe_ix (ix_list : IxR _ (rIxL K)) (pv 1) pe_int (fun _ _ => rfl)) pk_nil)))))))
                        (case hb1 =>
                          intro Gc Qc Ec sc en
                          have hpc : Gc p = some (.lst [v0x, v1x, v2x, v3x, v4x]) := sc _ _ hpd
                          have emc : Gc m = some (.tup [.str M.name, .str M.part, .ref lot, .int M.al, .str M.scope, .bl M.keep]) := sc _ _ emd
                          have c0 := x0.same sc
                          have c1 := x1.same sc
                          have c2 := x2.same sc
                          have c3 := x3.same sc
                          have c4 := x4.same sc
                          clear sc
                          tm_at "go"
                          refine okK rfl rfl (ws := [v0x, v1x, v2x, v3x, v4x, .bl false]) (fun _ => rfl) ?_
                          exact i_pieceE (b := b) c0.gv (c1.weak _).gv (c3.weak _).gv (c4.weak _).gv c2 en)
                    | n + 2, hx => cases hx
                  · intro G tr tss sG nt etr hpp
                    have BG := Bd.same sG
                    have TG := tabS sG Td
                    have y0 := x0.same sG
                    have y1 := x1.same sG
                    have y3 := x3.same sG
                    have y4 := x4.same sG
                    have wG : WhyAt (wy (pieceE k0 v0x v1x v3x v4x dp ds rr)) G td := wd.same sG
                    have eTG' := sG _ _ eTd
                    obtain ⟨D, hD, dD⟩ := pieceE_whyD (rr := rr) y0.gv.dt y1.gv.dt y3.gv.dt y4.gv.dt y0.gv.deep y1.gv.deep y3.gv.deep y4.gv.deep
                    have l2 : (tss.map V.ref).length ≤ 100000 := by
                      rw [List.length_map, Paired.length hpp]
                      exact Nat.le_of_ble_eq_true rfl
                    have xA := Dt.lst (SqL.of etr) (Bd.ne nt) l2 (paired_dt (K := K) BG hpp (.cons hD (.cons hD .nil)))
                    have xB := wG.dt BG hD
                    clear sG sd grow
                    tm_at "go"
                    rename_i pd G5 n5 s5 e5 ndb ndl G6 s6
                    exact ⟨_, _, _, _, _, _, _, _, rfl, (BG.same s5).same s6, tabS s6 (tabS s5 TG), ⟨s6 _ _ (s5 _ _ eTG'), TLr⟩⟩
    · rintro σ H4 ⟨v0, v3, v4, v5, v6, v7, v8, v9, rfl, B4, T4, TL4⟩
      tm_at "go"
      exact ⟨b, l, rfl, B4, T4, k'⟩
end

open Lend LamX NdefX SupX
/-! ### what the top has written, the head -/
abbrev bmOf {B newId initId : String} {bm : List Value} (_ : ExcBaseFacts B newId initId bm) : List Value := bm
theorem all_mkE {l : PySem.W.OpenLaw} {w : World} {K : PySem.W.Frag} {h : Heap} {mg : Str → Option Value} {fa : Addr} (PS : SupX.ProgS l.prog FL) (X : K.In h) (G : h.Ns mainGlobals mg) (hfa : mg "law" = some (.ref fa))
    {fi_TooMany cl_TooMany cda_TooMany : Addr} {oc_TooMany kV_TooMany dc_TooMany pm_TooMany ct_TooMany ccl_TooMany ccv_TooMany : Value} {od_TooMany an_TooMany cdd_TooMany cld_TooMany : Option Addr} {os_TooMany ccs_TooMany csl_TooMany : Array (Option Value)} {vsC_TooMany : Array Value} {tf_TooMany : Tok} {cd_TooMany : ClassData} {nm_TooMany q_TooMany : Str} {N_TooMany : Addr} {bs_TooMany bm_TooMany : List Value} {sn_TooMany : List Str} {sub_TooMany : List Value} {ab_TooMany : Bool} {col_TooMany : Option Bool} {dd_TooMany : Option Addr} {k0_TooMany k1_TooMany k2_TooMany k3_TooMany k5_TooMany : Option Value}
    {fi_NotClosing cl_NotClosing cda_NotClosing : Addr} {oc_NotClosing kV_NotClosing dc_NotClosing pm_NotClosing ct_NotClosing ccl_NotClosing ccv_NotClosing : Value} {od_NotClosing an_NotClosing cdd_NotClosing cld_NotClosing : Option Addr} {os_NotClosing ccs_NotClosing csl_NotClosing : Array (Option Value)} {vsC_NotClosing : Array Value} {tf_NotClosing : Tok} {cd_NotClosing : ClassData} {nm_NotClosing q_NotClosing : Str} {N_NotClosing : Addr} {bs_NotClosing bm_NotClosing : List Value} {sn_NotClosing : List Str} {sub_NotClosing : List Value} {ab_NotClosing : Bool} {col_NotClosing : Option Bool} {dd_NotClosing : Option Addr} {k0_NotClosing k1_NotClosing k2_NotClosing k3_NotClosing k5_NotClosing : Option Value}
    {fi_InvalidRow cl_InvalidRow cda_InvalidRow : Addr} {oc_InvalidRow kV_InvalidRow dc_InvalidRow pm_InvalidRow ct_InvalidRow ccl_InvalidRow ccv_InvalidRow : Value} {od_InvalidRow an_InvalidRow cdd_InvalidRow cld_InvalidRow : Option Addr} {os_InvalidRow ccs_InvalidRow csl_InvalidRow : Array (Option Value)} {vsC_InvalidRow : Array Value} {tf_InvalidRow : Tok} {cd_InvalidRow : ClassData} {nm_InvalidRow q_InvalidRow : Str} {N_InvalidRow : Addr} {bs_InvalidRow bm_InvalidRow : List Value} {sn_InvalidRow : List Str} {sub_InvalidRow : List Value} {ab_InvalidRow : Bool} {col_InvalidRow : Option Bool} {dd_InvalidRow : Option Addr} {k0_InvalidRow k1_InvalidRow k2_InvalidRow k3_InvalidRow k5_InvalidRow : Option Value}
    {fi_InvalidScope cl_InvalidScope cda_InvalidScope : Addr} {oc_InvalidScope kV_InvalidScope dc_InvalidScope pm_InvalidScope ct_InvalidScope ccl_InvalidScope ccv_InvalidScope : Value} {od_InvalidScope an_InvalidScope cdd_InvalidScope cld_InvalidScope : Option Addr} {os_InvalidScope ccs_InvalidScope csl_InvalidScope : Array (Option Value)} {vsC_InvalidScope : Array Value} {tf_InvalidScope : Tok} {cd_InvalidScope : ClassData} {nm_InvalidScope q_InvalidScope : Str} {N_InvalidScope : Addr} {bs_InvalidScope bm_InvalidScope : List Value} {sn_InvalidScope : List Str} {sub_InvalidScope : List Value} {ab_InvalidScope : Bool} {col_InvalidScope : Option Bool} {dd_InvalidScope : Option Addr} {k0_InvalidScope k1_InvalidScope k2_InvalidScope k3_InvalidScope k5_InvalidScope : Option Value}
    {fi_InvalidAlignment cl_InvalidAlignment cda_InvalidAlignment : Addr} {oc_InvalidAlignment kV_InvalidAlignment dc_InvalidAlignment pm_InvalidAlignment ct_InvalidAlignment ccl_InvalidAlignment ccv_InvalidAlignment : Value} {od_InvalidAlignment an_InvalidAlignment cdd_InvalidAlignment cld_InvalidAlignment : Option Addr} {os_InvalidAlignment ccs_InvalidAlignment csl_InvalidAlignment : Array (Option Value)} {vsC_InvalidAlignment : Array Value} {tf_InvalidAlignment : Tok} {cd_InvalidAlignment : ClassData} {nm_InvalidAlignment q_InvalidAlignment : Str} {N_InvalidAlignment : Addr} {bs_InvalidAlignment bm_InvalidAlignment : List Value} {sn_InvalidAlignment : List Str} {sub_InvalidAlignment : List Value} {ab_InvalidAlignment : Bool} {col_InvalidAlignment : Option Bool} {dd_InvalidAlignment : Option Addr} {k0_InvalidAlignment k1_InvalidAlignment k2_InvalidAlignment k3_InvalidAlignment k5_InvalidAlignment : Option Value}
    {fi_InvalidPart cl_InvalidPart cda_InvalidPart : Addr} {oc_InvalidPart kV_InvalidPart dc_InvalidPart pm_InvalidPart ct_InvalidPart ccl_InvalidPart ccv_InvalidPart : Value} {od_InvalidPart an_InvalidPart cdd_InvalidPart cld_InvalidPart : Option Addr} {os_InvalidPart ccs_InvalidPart csl_InvalidPart : Array (Option Value)} {vsC_InvalidPart : Array Value} {tf_InvalidPart : Tok} {cd_InvalidPart : ClassData} {nm_InvalidPart q_InvalidPart : Str} {N_InvalidPart : Addr} {bs_InvalidPart bm_InvalidPart : List Value} {sn_InvalidPart : List Str} {sub_InvalidPart : List Value} {ab_InvalidPart : Bool} {col_InvalidPart : Option Bool} {dd_InvalidPart : Option Addr} {k0_InvalidPart k1_InvalidPart k2_InvalidPart k3_InvalidPart k5_InvalidPart : Option Value}
    {fi_InvalidName cl_InvalidName cda_InvalidName : Addr} {oc_InvalidName kV_InvalidName dc_InvalidName pm_InvalidName ct_InvalidName ccl_InvalidName ccv_InvalidName : Value} {od_InvalidName an_InvalidName cdd_InvalidName cld_InvalidName : Option Addr} {os_InvalidName ccs_InvalidName csl_InvalidName : Array (Option Value)} {vsC_InvalidName : Array Value} {tf_InvalidName : Tok} {cd_InvalidName : ClassData} {nm_InvalidName q_InvalidName : Str} {N_InvalidName : Addr} {bs_InvalidName bm_InvalidName : List Value} {sn_InvalidName : List Str} {sub_InvalidName : List Value} {ab_InvalidName : Bool} {col_InvalidName : Option Bool} {dd_InvalidName : Option Addr} {k0_InvalidName k1_InvalidName k2_InvalidName k3_InvalidName k5_InvalidName : Option Value}
    {cc_law_written_so pp_law_written_so cc_law pp_law : Addr} {tcl_law_written_so : Value} {tcd_law_written_so : Option Addr} {tvs_law_written_so : Array Value} {tcs_law_written_so : Array (Option Value)} {tcl_law : Value} {tcd_law : Option Addr} {tvs_law : Array Value} {tcs_law : Array (Option Value)}
    {f_wall f_is_name f_is_register f_is_number f_is_code_row f_is_data_row f_is_row_of f_is_closing f_word_of f_fit f_fits f_Piece___init__ f_Piece_rows f_Piece_is_shared f_Piece_is_strong f_Piece___eq__ f_Piece___len__ f_Piece___bool__ f_Piece___repr__ f_is_part f_is_alignment f_is_scope_of f_ends_closing f_check_rows f_law_bag f_law_draw f_law_of f_law_same f_law_field f_law_try f_law_why f_law_whys f_law_odd f_law_titles f_law_number f_law_r f_law_code_row f_law_last_row f_law_data_row f_law_piece_model f_law_is_title f_law_within f_law_code_so f_law_data_so f_law_wrong_rows f_law_due f_law_written_so f_law f_C_Piece q_REGISTERS q_CODE_ROWS q_DATA_ROWS q_BOUNDS q_CLOSING q_PARTS q_ALIGNMENTS q_SCOPES : Addr}
    {od_wall an_wall od_is_name an_is_name od_is_register an_is_register od_is_number an_is_number od_is_code_row an_is_code_row od_is_data_row an_is_data_row od_is_row_of an_is_row_of od_is_closing an_is_closing od_word_of an_word_of od_fit an_fit od_fits an_fits od_Piece___init__ an_Piece___init__ od_Piece_rows an_Piece_rows od_Piece_is_shared an_Piece_is_shared od_Piece_is_strong an_Piece_is_strong od_Piece___eq__ an_Piece___eq__ od_Piece___len__ an_Piece___len__ od_Piece___bool__ an_Piece___bool__ od_Piece___repr__ an_Piece___repr__ od_is_part an_is_part od_is_alignment an_is_alignment od_is_scope_of an_is_scope_of od_ends_closing an_ends_closing od_check_rows an_check_rows od_law_bag an_law_bag od_law_draw an_law_draw od_law_of an_law_of od_law_same an_law_same od_law_field an_law_field od_law_try an_law_try od_law_why an_law_why od_law_whys an_law_whys od_law_odd an_law_odd od_law_titles an_law_titles od_law_number an_law_number od_law_r an_law_r od_law_code_row an_law_code_row od_law_last_row an_law_last_row od_law_data_row an_law_data_row od_law_piece_model an_law_piece_model od_law_is_title an_law_is_title od_law_within an_law_within od_law_code_so an_law_code_so od_law_data_so an_law_data_so od_law_wrong_rows an_law_wrong_rows od_law_due an_law_due od_law_written_so an_law_written_so od_law an_law : Option Addr} {sl_wall sl_is_name sl_is_register sl_is_number sl_is_code_row sl_is_data_row sl_is_row_of sl_is_closing sl_word_of sl_fit sl_fits sl_Piece___init__ sl_Piece_rows sl_Piece_is_shared sl_Piece_is_strong sl_Piece___eq__ sl_Piece___len__ sl_Piece___bool__ sl_Piece___repr__ sl_is_part sl_is_alignment sl_is_scope_of sl_ends_closing sl_check_rows sl_law_bag sl_law_draw sl_law_of sl_law_same sl_law_field sl_law_try sl_law_why sl_law_whys sl_law_odd sl_law_titles sl_law_number sl_law_r sl_law_code_row sl_law_last_row sl_law_data_row sl_law_piece_model sl_law_is_title sl_law_within sl_law_code_so sl_law_data_so sl_law_wrong_rows sl_law_due sl_law_written_so sl_law : Array (Option Value)} {oc_wall kV_wall dc_wall pm_wall cd_wall ct_wall oc_is_name kV_is_name dc_is_name pm_is_name cd_is_name ct_is_name oc_is_register kV_is_register dc_is_register pm_is_register cd_is_register ct_is_register oc_is_number kV_is_number dc_is_number pm_is_number cd_is_number ct_is_number oc_is_code_row kV_is_code_row dc_is_code_row pm_is_code_row cd_is_code_row ct_is_code_row oc_is_data_row kV_is_data_row dc_is_data_row pm_is_data_row cd_is_data_row ct_is_data_row oc_is_row_of kV_is_row_of dc_is_row_of pm_is_row_of cd_is_row_of ct_is_row_of oc_is_closing kV_is_closing dc_is_closing pm_is_closing cd_is_closing ct_is_closing oc_word_of kV_word_of dc_word_of pm_word_of cd_word_of ct_word_of oc_fit kV_fit dc_fit pm_fit cd_fit ct_fit oc_fits kV_fits dc_fits pm_fits cd_fits ct_fits oc_Piece___init__ dc_Piece___init__ pm_Piece___init__ cd_Piece___init__ ct_Piece___init__ oc_Piece_rows kV_Piece_rows dc_Piece_rows pm_Piece_rows cd_Piece_rows ct_Piece_rows oc_Piece_is_shared kV_Piece_is_shared dc_Piece_is_shared pm_Piece_is_shared cd_Piece_is_shared ct_Piece_is_shared oc_Piece_is_strong kV_Piece_is_strong dc_Piece_is_strong pm_Piece_is_strong cd_Piece_is_strong ct_Piece_is_strong oc_Piece___eq__ kV_Piece___eq__ dc_Piece___eq__ pm_Piece___eq__ cd_Piece___eq__ ct_Piece___eq__ oc_Piece___len__ kV_Piece___len__ dc_Piece___len__ pm_Piece___len__ cd_Piece___len__ ct_Piece___len__ oc_Piece___bool__ kV_Piece___bool__ dc_Piece___bool__ pm_Piece___bool__ cd_Piece___bool__ ct_Piece___bool__ oc_Piece___repr__ kV_Piece___repr__ dc_Piece___repr__ pm_Piece___repr__ cd_Piece___repr__ ct_Piece___repr__ oc_is_part kV_is_part dc_is_part pm_is_part cd_is_part ct_is_part oc_is_alignment kV_is_alignment dc_is_alignment pm_is_alignment cd_is_alignment ct_is_alignment oc_is_scope_of kV_is_scope_of dc_is_scope_of pm_is_scope_of cd_is_scope_of ct_is_scope_of oc_ends_closing kV_ends_closing dc_ends_closing pm_ends_closing cd_ends_closing ct_ends_closing oc_check_rows kV_check_rows dc_check_rows pm_check_rows cd_check_rows ct_check_rows oc_law_bag kV_law_bag dc_law_bag pm_law_bag cd_law_bag ct_law_bag oc_law_draw kV_law_draw dc_law_draw pm_law_draw cd_law_draw ct_law_draw oc_law_of kV_law_of dc_law_of pm_law_of cd_law_of ct_law_of oc_law_same kV_law_same dc_law_same pm_law_same cd_law_same ct_law_same oc_law_field kV_law_field dc_law_field pm_law_field cd_law_field ct_law_field oc_law_try kV_law_try dc_law_try pm_law_try cd_law_try ct_law_try oc_law_why kV_law_why dc_law_why pm_law_why cd_law_why ct_law_why oc_law_whys kV_law_whys dc_law_whys pm_law_whys cd_law_whys ct_law_whys oc_law_odd kV_law_odd dc_law_odd pm_law_odd cd_law_odd ct_law_odd oc_law_titles kV_law_titles dc_law_titles pm_law_titles cd_law_titles ct_law_titles oc_law_number kV_law_number dc_law_number pm_law_number cd_law_number ct_law_number oc_law_r kV_law_r dc_law_r pm_law_r cd_law_r ct_law_r oc_law_code_row kV_law_code_row dc_law_code_row pm_law_code_row cd_law_code_row ct_law_code_row oc_law_last_row kV_law_last_row dc_law_last_row pm_law_last_row cd_law_last_row ct_law_last_row oc_law_data_row kV_law_data_row dc_law_data_row pm_law_data_row cd_law_data_row ct_law_data_row oc_law_piece_model kV_law_piece_model dc_law_piece_model pm_law_piece_model cd_law_piece_model ct_law_piece_model oc_law_is_title kV_law_is_title dc_law_is_title pm_law_is_title cd_law_is_title ct_law_is_title oc_law_within kV_law_within dc_law_within pm_law_within cd_law_within ct_law_within oc_law_code_so kV_law_code_so dc_law_code_so pm_law_code_so cd_law_code_so ct_law_code_so oc_law_data_so kV_law_data_so dc_law_data_so pm_law_data_so cd_law_data_so ct_law_data_so oc_law_wrong_rows kV_law_wrong_rows dc_law_wrong_rows pm_law_wrong_rows cd_law_wrong_rows ct_law_wrong_rows oc_law_due kV_law_due dc_law_due pm_law_due cd_law_due ct_law_due oc_law_written_so kV_law_written_so dc_law_written_so pm_law_written_so ct_law_written_so oc_law kV_law dc_law pm_law ct_law : Value}
    (a_wall : PySem.W.nsIn K mainGlobals "_wall" = some (some (.ref f_wall))) (l_wall : K.lookup f_wall = some ⟨oc_wall, od_wall, .func (PySem.W.fnOf "_wall" "_wall" (defArgs s_wall) (defBody s_wall) (defScope s_wall) .none kV_wall dc_wall pm_wall an_wall cd_wall ct_wall), sl_wall⟩) (c_wall : PySem.W.codeIn K cd_wall "_wall" = true) (k_wall : PySem.W.keepIn K (.ref f_wall) = true)
    (a_is_name : PySem.W.nsIn K mainGlobals "is_name" = some (some (.ref f_is_name))) (l_is_name : K.lookup f_is_name = some ⟨oc_is_name, od_is_name, .func (PySem.W.fnOf "is_name" "is_name" (defArgs s_is_name) (defBody s_is_name) (defScope s_is_name) .none kV_is_name dc_is_name pm_is_name an_is_name cd_is_name ct_is_name), sl_is_name⟩) (c_is_name : PySem.W.codeIn K cd_is_name "is_name" = true) (k_is_name : PySem.W.keepIn K (.ref f_is_name) = true)
    (a_is_register : PySem.W.nsIn K mainGlobals "is_register" = some (some (.ref f_is_register))) (l_is_register : K.lookup f_is_register = some ⟨oc_is_register, od_is_register, .func (PySem.W.fnOf "is_register" "is_register" (defArgs s_is_register) (defBody s_is_register) (defScope s_is_register) .none kV_is_register dc_is_register pm_is_register an_is_register cd_is_register ct_is_register), sl_is_register⟩) (c_is_register : PySem.W.codeIn K cd_is_register "is_register" = true) (k_is_register : PySem.W.keepIn K (.ref f_is_register) = true)
    (a_is_number : PySem.W.nsIn K mainGlobals "is_number" = some (some (.ref f_is_number))) (l_is_number : K.lookup f_is_number = some ⟨oc_is_number, od_is_number, .func (PySem.W.fnOf "is_number" "is_number" (defArgs s_is_number) (defBody s_is_number) (defScope s_is_number) .none kV_is_number dc_is_number pm_is_number an_is_number cd_is_number ct_is_number), sl_is_number⟩) (c_is_number : PySem.W.codeIn K cd_is_number "is_number" = true) (k_is_number : PySem.W.keepIn K (.ref f_is_number) = true)
    (a_is_code_row : PySem.W.nsIn K mainGlobals "is_code_row" = some (some (.ref f_is_code_row))) (l_is_code_row : K.lookup f_is_code_row = some ⟨oc_is_code_row, od_is_code_row, .func (PySem.W.fnOf "is_code_row" "is_code_row" (defArgs s_is_code_row) (defBody s_is_code_row) (defScope s_is_code_row) .none kV_is_code_row dc_is_code_row pm_is_code_row an_is_code_row cd_is_code_row ct_is_code_row), sl_is_code_row⟩) (c_is_code_row : PySem.W.codeIn K cd_is_code_row "is_code_row" = true) (k_is_code_row : PySem.W.keepIn K (.ref f_is_code_row) = true)
    (a_is_data_row : PySem.W.nsIn K mainGlobals "is_data_row" = some (some (.ref f_is_data_row))) (l_is_data_row : K.lookup f_is_data_row = some ⟨oc_is_data_row, od_is_data_row, .func (PySem.W.fnOf "is_data_row" "is_data_row" (defArgs s_is_data_row) (defBody s_is_data_row) (defScope s_is_data_row) .none kV_is_data_row dc_is_data_row pm_is_data_row an_is_data_row cd_is_data_row ct_is_data_row), sl_is_data_row⟩) (c_is_data_row : PySem.W.codeIn K cd_is_data_row "is_data_row" = true) (k_is_data_row : PySem.W.keepIn K (.ref f_is_data_row) = true)
    (a_is_row_of : PySem.W.nsIn K mainGlobals "is_row_of" = some (some (.ref f_is_row_of))) (l_is_row_of : K.lookup f_is_row_of = some ⟨oc_is_row_of, od_is_row_of, .func (PySem.W.fnOf "is_row_of" "is_row_of" (defArgs s_is_row_of) (defBody s_is_row_of) (defScope s_is_row_of) .none kV_is_row_of dc_is_row_of pm_is_row_of an_is_row_of cd_is_row_of ct_is_row_of), sl_is_row_of⟩) (c_is_row_of : PySem.W.codeIn K cd_is_row_of "is_row_of" = true) (k_is_row_of : PySem.W.keepIn K (.ref f_is_row_of) = true)
    (a_is_closing : PySem.W.nsIn K mainGlobals "is_closing" = some (some (.ref f_is_closing))) (l_is_closing : K.lookup f_is_closing = some ⟨oc_is_closing, od_is_closing, .func (PySem.W.fnOf "is_closing" "is_closing" (defArgs s_is_closing) (defBody s_is_closing) (defScope s_is_closing) .none kV_is_closing dc_is_closing pm_is_closing an_is_closing cd_is_closing ct_is_closing), sl_is_closing⟩) (c_is_closing : PySem.W.codeIn K cd_is_closing "is_closing" = true) (k_is_closing : PySem.W.keepIn K (.ref f_is_closing) = true)
    (a_word_of : PySem.W.nsIn K mainGlobals "_word_of" = some (some (.ref f_word_of))) (l_word_of : K.lookup f_word_of = some ⟨oc_word_of, od_word_of, .func (PySem.W.fnOf "_word_of" "_word_of" (defArgs s_word_of) (defBody s_word_of) (defScope s_word_of) .none kV_word_of dc_word_of pm_word_of an_word_of cd_word_of ct_word_of), sl_word_of⟩) (c_word_of : PySem.W.codeIn K cd_word_of "_word_of" = true) (k_word_of : PySem.W.keepIn K (.ref f_word_of) = true)
    (a_fit : PySem.W.nsIn K mainGlobals "_fit" = some (some (.ref f_fit))) (l_fit : K.lookup f_fit = some ⟨oc_fit, od_fit, .func (PySem.W.fnOf "_fit" "_fit" (defArgs s_fit) (defBody s_fit) (defScope s_fit) .none kV_fit dc_fit pm_fit an_fit cd_fit ct_fit), sl_fit⟩) (c_fit : PySem.W.codeIn K cd_fit "_fit" = true) (k_fit : PySem.W.keepIn K (.ref f_fit) = true)
    (a_fits : PySem.W.nsIn K mainGlobals "_fits" = some (some (.ref f_fits))) (l_fits : K.lookup f_fits = some ⟨oc_fits, od_fits, .func (PySem.W.fnOf "_fits" "_fits" (defArgs s_fits) (defBody s_fits) (defScope s_fits) .none kV_fits dc_fits pm_fits an_fits cd_fits ct_fits), sl_fits⟩) (c_fits : PySem.W.codeIn K cd_fits "_fits" = true) (k_fits : PySem.W.keepIn K (.ref f_fits) = true)
    {kd_Piece___init__ : Addr} {ku_Piece___init___alignment : Tok} {ku_Piece___init___scope : Tok}
    (a_Piece___init__ : PySem.W.findIn K (.ref f_C_Piece) "__init__" = some (some (.ref f_Piece___init__))) (i_Piece___init__ : PySem.W.isFn K (.ref f_Piece___init__) = true) (l_Piece___init__ : K.lookup f_Piece___init__ = some ⟨oc_Piece___init__, od_Piece___init__, .func (PySem.W.fnOf "__init__" "Piece.__init__" (defArgs s_Piece___init__) (defBody s_Piece___init__) (defScope s_Piece___init__) .none (.ref kd_Piece___init__) dc_Piece___init__ pm_Piece___init__ an_Piece___init__ cd_Piece___init__ ct_Piece___init__), sl_Piece___init__⟩) (c_Piece___init__ : PySem.W.codeIn K cd_Piece___init__ "Piece.__init__" = true) (k_Piece___init__ : PySem.W.keepIn K (.ref f_Piece___init__) = true)
    (kw_Piece___init___alignment : PySem.W.nsIn K kd_Piece___init__ "alignment" = some (some (Value.int 1 ku_Piece___init___alignment)))
    (kw_Piece___init___scope : PySem.W.nsIn K kd_Piece___init__ "scope" = some (some (Value.str "local" ku_Piece___init___scope)))
    (kw_Piece___init___keep : PySem.W.nsIn K kd_Piece___init__ "keep" = some (some (Value.bool false)))
    (a_Piece_rows : PySem.W.findIn K (.ref f_C_Piece) "rows" = some (some (.ref f_Piece_rows))) (i_Piece_rows : PySem.W.isFn K (.ref f_Piece_rows) = true) (l_Piece_rows : K.lookup f_Piece_rows = some ⟨oc_Piece_rows, od_Piece_rows, .func (PySem.W.fnOf "rows" "Piece.rows" (defArgs s_Piece_rows) (defBody s_Piece_rows) (defScope s_Piece_rows) .none kV_Piece_rows dc_Piece_rows pm_Piece_rows an_Piece_rows cd_Piece_rows ct_Piece_rows), sl_Piece_rows⟩) (c_Piece_rows : PySem.W.codeIn K cd_Piece_rows "Piece.rows" = true) (k_Piece_rows : PySem.W.keepIn K (.ref f_Piece_rows) = true)
    (a_Piece_is_shared : PySem.W.findIn K (.ref f_C_Piece) "is_shared" = some (some (.ref f_Piece_is_shared))) (i_Piece_is_shared : PySem.W.isFn K (.ref f_Piece_is_shared) = true) (l_Piece_is_shared : K.lookup f_Piece_is_shared = some ⟨oc_Piece_is_shared, od_Piece_is_shared, .func (PySem.W.fnOf "is_shared" "Piece.is_shared" (defArgs s_Piece_is_shared) (defBody s_Piece_is_shared) (defScope s_Piece_is_shared) .none kV_Piece_is_shared dc_Piece_is_shared pm_Piece_is_shared an_Piece_is_shared cd_Piece_is_shared ct_Piece_is_shared), sl_Piece_is_shared⟩) (c_Piece_is_shared : PySem.W.codeIn K cd_Piece_is_shared "Piece.is_shared" = true) (k_Piece_is_shared : PySem.W.keepIn K (.ref f_Piece_is_shared) = true)
    (a_Piece_is_strong : PySem.W.findIn K (.ref f_C_Piece) "is_strong" = some (some (.ref f_Piece_is_strong))) (i_Piece_is_strong : PySem.W.isFn K (.ref f_Piece_is_strong) = true) (l_Piece_is_strong : K.lookup f_Piece_is_strong = some ⟨oc_Piece_is_strong, od_Piece_is_strong, .func (PySem.W.fnOf "is_strong" "Piece.is_strong" (defArgs s_Piece_is_strong) (defBody s_Piece_is_strong) (defScope s_Piece_is_strong) .none kV_Piece_is_strong dc_Piece_is_strong pm_Piece_is_strong an_Piece_is_strong cd_Piece_is_strong ct_Piece_is_strong), sl_Piece_is_strong⟩) (c_Piece_is_strong : PySem.W.codeIn K cd_Piece_is_strong "Piece.is_strong" = true) (k_Piece_is_strong : PySem.W.keepIn K (.ref f_Piece_is_strong) = true)
    (a_Piece___eq__ : PySem.W.findIn K (.ref f_C_Piece) "__eq__" = some (some (.ref f_Piece___eq__))) (i_Piece___eq__ : PySem.W.isFn K (.ref f_Piece___eq__) = true) (l_Piece___eq__ : K.lookup f_Piece___eq__ = some ⟨oc_Piece___eq__, od_Piece___eq__, .func (PySem.W.fnOf "__eq__" "Piece.__eq__" (defArgs s_Piece___eq__) (defBody s_Piece___eq__) (defScope s_Piece___eq__) .none kV_Piece___eq__ dc_Piece___eq__ pm_Piece___eq__ an_Piece___eq__ cd_Piece___eq__ ct_Piece___eq__), sl_Piece___eq__⟩) (c_Piece___eq__ : PySem.W.codeIn K cd_Piece___eq__ "Piece.__eq__" = true) (k_Piece___eq__ : PySem.W.keepIn K (.ref f_Piece___eq__) = true)
    (a_Piece___len__ : PySem.W.findIn K (.ref f_C_Piece) "__len__" = some (some (.ref f_Piece___len__))) (i_Piece___len__ : PySem.W.isFn K (.ref f_Piece___len__) = true) (l_Piece___len__ : K.lookup f_Piece___len__ = some ⟨oc_Piece___len__, od_Piece___len__, .func (PySem.W.fnOf "__len__" "Piece.__len__" (defArgs s_Piece___len__) (defBody s_Piece___len__) (defScope s_Piece___len__) .none kV_Piece___len__ dc_Piece___len__ pm_Piece___len__ an_Piece___len__ cd_Piece___len__ ct_Piece___len__), sl_Piece___len__⟩) (c_Piece___len__ : PySem.W.codeIn K cd_Piece___len__ "Piece.__len__" = true) (k_Piece___len__ : PySem.W.keepIn K (.ref f_Piece___len__) = true)
    (a_Piece___bool__ : PySem.W.findIn K (.ref f_C_Piece) "__bool__" = some (some (.ref f_Piece___bool__))) (i_Piece___bool__ : PySem.W.isFn K (.ref f_Piece___bool__) = true) (l_Piece___bool__ : K.lookup f_Piece___bool__ = some ⟨oc_Piece___bool__, od_Piece___bool__, .func (PySem.W.fnOf "__bool__" "Piece.__bool__" (defArgs s_Piece___bool__) (defBody s_Piece___bool__) (defScope s_Piece___bool__) .none kV_Piece___bool__ dc_Piece___bool__ pm_Piece___bool__ an_Piece___bool__ cd_Piece___bool__ ct_Piece___bool__), sl_Piece___bool__⟩) (c_Piece___bool__ : PySem.W.codeIn K cd_Piece___bool__ "Piece.__bool__" = true) (k_Piece___bool__ : PySem.W.keepIn K (.ref f_Piece___bool__) = true)
    (a_Piece___repr__ : PySem.W.findIn K (.ref f_C_Piece) "__repr__" = some (some (.ref f_Piece___repr__))) (i_Piece___repr__ : PySem.W.isFn K (.ref f_Piece___repr__) = true) (l_Piece___repr__ : K.lookup f_Piece___repr__ = some ⟨oc_Piece___repr__, od_Piece___repr__, .func (PySem.W.fnOf "__repr__" "Piece.__repr__" (defArgs s_Piece___repr__) (defBody s_Piece___repr__) (defScope s_Piece___repr__) .none kV_Piece___repr__ dc_Piece___repr__ pm_Piece___repr__ an_Piece___repr__ cd_Piece___repr__ ct_Piece___repr__), sl_Piece___repr__⟩) (c_Piece___repr__ : PySem.W.codeIn K cd_Piece___repr__ "Piece.__repr__" = true) (k_Piece___repr__ : PySem.W.keepIn K (.ref f_Piece___repr__) = true)
    (a_is_part : PySem.W.nsIn K mainGlobals "is_part" = some (some (.ref f_is_part))) (l_is_part : K.lookup f_is_part = some ⟨oc_is_part, od_is_part, .func (PySem.W.fnOf "is_part" "is_part" (defArgs s_is_part) (defBody s_is_part) (defScope s_is_part) .none kV_is_part dc_is_part pm_is_part an_is_part cd_is_part ct_is_part), sl_is_part⟩) (c_is_part : PySem.W.codeIn K cd_is_part "is_part" = true) (k_is_part : PySem.W.keepIn K (.ref f_is_part) = true)
    (a_is_alignment : PySem.W.nsIn K mainGlobals "is_alignment" = some (some (.ref f_is_alignment))) (l_is_alignment : K.lookup f_is_alignment = some ⟨oc_is_alignment, od_is_alignment, .func (PySem.W.fnOf "is_alignment" "is_alignment" (defArgs s_is_alignment) (defBody s_is_alignment) (defScope s_is_alignment) .none kV_is_alignment dc_is_alignment pm_is_alignment an_is_alignment cd_is_alignment ct_is_alignment), sl_is_alignment⟩) (c_is_alignment : PySem.W.codeIn K cd_is_alignment "is_alignment" = true) (k_is_alignment : PySem.W.keepIn K (.ref f_is_alignment) = true)
    (a_is_scope_of : PySem.W.nsIn K mainGlobals "is_scope_of" = some (some (.ref f_is_scope_of))) (l_is_scope_of : K.lookup f_is_scope_of = some ⟨oc_is_scope_of, od_is_scope_of, .func (PySem.W.fnOf "is_scope_of" "is_scope_of" (defArgs s_is_scope_of) (defBody s_is_scope_of) (defScope s_is_scope_of) .none kV_is_scope_of dc_is_scope_of pm_is_scope_of an_is_scope_of cd_is_scope_of ct_is_scope_of), sl_is_scope_of⟩) (c_is_scope_of : PySem.W.codeIn K cd_is_scope_of "is_scope_of" = true) (k_is_scope_of : PySem.W.keepIn K (.ref f_is_scope_of) = true)
    (a_ends_closing : PySem.W.nsIn K mainGlobals "ends_closing" = some (some (.ref f_ends_closing))) (l_ends_closing : K.lookup f_ends_closing = some ⟨oc_ends_closing, od_ends_closing, .func (PySem.W.fnOf "ends_closing" "ends_closing" (defArgs s_ends_closing) (defBody s_ends_closing) (defScope s_ends_closing) .none kV_ends_closing dc_ends_closing pm_ends_closing an_ends_closing cd_ends_closing ct_ends_closing), sl_ends_closing⟩) (c_ends_closing : PySem.W.codeIn K cd_ends_closing "ends_closing" = true) (k_ends_closing : PySem.W.keepIn K (.ref f_ends_closing) = true)
    (a_check_rows : PySem.W.nsIn K mainGlobals "_check_rows" = some (some (.ref f_check_rows))) (l_check_rows : K.lookup f_check_rows = some ⟨oc_check_rows, od_check_rows, .func (PySem.W.fnOf "_check_rows" "_check_rows" (defArgs s_check_rows) (defBody s_check_rows) (defScope s_check_rows) .none kV_check_rows dc_check_rows pm_check_rows an_check_rows cd_check_rows ct_check_rows), sl_check_rows⟩) (c_check_rows : PySem.W.codeIn K cd_check_rows "_check_rows" = true) (k_check_rows : PySem.W.keepIn K (.ref f_check_rows) = true)
    (a_law_bag : PySem.W.nsIn K mainGlobals "_law_bag" = some (some (.ref f_law_bag))) (l_law_bag : K.lookup f_law_bag = some ⟨oc_law_bag, od_law_bag, .func (PySem.W.fnOf "_law_bag" "_law_bag" (defArgs s_law_bag) (defBody s_law_bag) (defScope s_law_bag) .none kV_law_bag dc_law_bag pm_law_bag an_law_bag cd_law_bag ct_law_bag), sl_law_bag⟩) (c_law_bag : PySem.W.codeIn K cd_law_bag "_law_bag" = true) (k_law_bag : PySem.W.keepIn K (.ref f_law_bag) = true)
    (a_law_draw : PySem.W.nsIn K mainGlobals "_law_draw" = some (some (.ref f_law_draw))) (l_law_draw : K.lookup f_law_draw = some ⟨oc_law_draw, od_law_draw, .func (PySem.W.fnOf "_law_draw" "_law_draw" (defArgs s_law_draw) (defBody s_law_draw) (defScope s_law_draw) .none kV_law_draw dc_law_draw pm_law_draw an_law_draw cd_law_draw ct_law_draw), sl_law_draw⟩) (c_law_draw : PySem.W.codeIn K cd_law_draw "_law_draw" = true) (k_law_draw : PySem.W.keepIn K (.ref f_law_draw) = true)
    (a_law_of : PySem.W.nsIn K mainGlobals "_law_of" = some (some (.ref f_law_of))) (l_law_of : K.lookup f_law_of = some ⟨oc_law_of, od_law_of, .func (PySem.W.fnOf "_law_of" "_law_of" (defArgs s_law_of) (defBody s_law_of) (defScope s_law_of) .none kV_law_of dc_law_of pm_law_of an_law_of cd_law_of ct_law_of), sl_law_of⟩) (c_law_of : PySem.W.codeIn K cd_law_of "_law_of" = true) (k_law_of : PySem.W.keepIn K (.ref f_law_of) = true)
    (a_law_same : PySem.W.nsIn K mainGlobals "_law_same" = some (some (.ref f_law_same))) (l_law_same : K.lookup f_law_same = some ⟨oc_law_same, od_law_same, .func (PySem.W.fnOf "_law_same" "_law_same" (defArgs s_law_same) (defBody s_law_same) (defScope s_law_same) .none kV_law_same dc_law_same pm_law_same an_law_same cd_law_same ct_law_same), sl_law_same⟩) (c_law_same : PySem.W.codeIn K cd_law_same "_law_same" = true) (k_law_same : PySem.W.keepIn K (.ref f_law_same) = true)
    (a_law_field : PySem.W.nsIn K mainGlobals "_law_field" = some (some (.ref f_law_field))) (l_law_field : K.lookup f_law_field = some ⟨oc_law_field, od_law_field, .func (PySem.W.fnOf "_law_field" "_law_field" (defArgs s_law_field) (defBody s_law_field) (defScope s_law_field) .none kV_law_field dc_law_field pm_law_field an_law_field cd_law_field ct_law_field), sl_law_field⟩) (c_law_field : PySem.W.codeIn K cd_law_field "_law_field" = true) (k_law_field : PySem.W.keepIn K (.ref f_law_field) = true)
    (a_law_try : PySem.W.nsIn K mainGlobals "_law_try" = some (some (.ref f_law_try))) (l_law_try : K.lookup f_law_try = some ⟨oc_law_try, od_law_try, .func (PySem.W.fnOf "_law_try" "_law_try" (defArgs s_law_try) (defBody s_law_try) (defScope s_law_try) .none kV_law_try dc_law_try pm_law_try an_law_try cd_law_try ct_law_try), sl_law_try⟩) (c_law_try : PySem.W.codeIn K cd_law_try "_law_try" = true) (k_law_try : PySem.W.keepIn K (.ref f_law_try) = true)
    (a_law_why : PySem.W.nsIn K mainGlobals "_law_why" = some (some (.ref f_law_why))) (l_law_why : K.lookup f_law_why = some ⟨oc_law_why, od_law_why, .func (PySem.W.fnOf "_law_why" "_law_why" (defArgs s_law_why) (defBody s_law_why) (defScope s_law_why) .none kV_law_why dc_law_why pm_law_why an_law_why cd_law_why ct_law_why), sl_law_why⟩) (c_law_why : PySem.W.codeIn K cd_law_why "_law_why" = true) (k_law_why : PySem.W.keepIn K (.ref f_law_why) = true)
    (a_law_whys : PySem.W.nsIn K mainGlobals "_law_whys" = some (some (.ref f_law_whys))) (l_law_whys : K.lookup f_law_whys = some ⟨oc_law_whys, od_law_whys, .func (PySem.W.fnOf "_law_whys" "_law_whys" (defArgs s_law_whys) (defBody s_law_whys) (defScope s_law_whys) .none kV_law_whys dc_law_whys pm_law_whys an_law_whys cd_law_whys ct_law_whys), sl_law_whys⟩) (c_law_whys : PySem.W.codeIn K cd_law_whys "_law_whys" = true) (k_law_whys : PySem.W.keepIn K (.ref f_law_whys) = true)
    (a_law_odd : PySem.W.nsIn K mainGlobals "_law_odd" = some (some (.ref f_law_odd))) (l_law_odd : K.lookup f_law_odd = some ⟨oc_law_odd, od_law_odd, .func (PySem.W.fnOf "_law_odd" "_law_odd" (defArgs s_law_odd) (defBody s_law_odd) (defScope s_law_odd) .none kV_law_odd dc_law_odd pm_law_odd an_law_odd cd_law_odd ct_law_odd), sl_law_odd⟩) (c_law_odd : PySem.W.codeIn K cd_law_odd "_law_odd" = true) (k_law_odd : PySem.W.keepIn K (.ref f_law_odd) = true)
    (a_law_titles : PySem.W.nsIn K mainGlobals "_law_titles" = some (some (.ref f_law_titles))) (l_law_titles : K.lookup f_law_titles = some ⟨oc_law_titles, od_law_titles, .func (PySem.W.fnOf "_law_titles" "_law_titles" (defArgs s_law_titles) (defBody s_law_titles) (defScope s_law_titles) .none kV_law_titles dc_law_titles pm_law_titles an_law_titles cd_law_titles ct_law_titles), sl_law_titles⟩) (c_law_titles : PySem.W.codeIn K cd_law_titles "_law_titles" = true) (k_law_titles : PySem.W.keepIn K (.ref f_law_titles) = true)
    (a_law_number : PySem.W.nsIn K mainGlobals "_law_number" = some (some (.ref f_law_number))) (l_law_number : K.lookup f_law_number = some ⟨oc_law_number, od_law_number, .func (PySem.W.fnOf "_law_number" "_law_number" (defArgs s_law_number) (defBody s_law_number) (defScope s_law_number) .none kV_law_number dc_law_number pm_law_number an_law_number cd_law_number ct_law_number), sl_law_number⟩) (c_law_number : PySem.W.codeIn K cd_law_number "_law_number" = true) (k_law_number : PySem.W.keepIn K (.ref f_law_number) = true)
    (a_law_r : PySem.W.nsIn K mainGlobals "_law_r" = some (some (.ref f_law_r))) (l_law_r : K.lookup f_law_r = some ⟨oc_law_r, od_law_r, .func (PySem.W.fnOf "_law_r" "_law_r" (defArgs s_law_r) (defBody s_law_r) (defScope s_law_r) .none kV_law_r dc_law_r pm_law_r an_law_r cd_law_r ct_law_r), sl_law_r⟩) (c_law_r : PySem.W.codeIn K cd_law_r "_law_r" = true) (k_law_r : PySem.W.keepIn K (.ref f_law_r) = true)
    (a_law_code_row : PySem.W.nsIn K mainGlobals "_law_code_row" = some (some (.ref f_law_code_row))) (l_law_code_row : K.lookup f_law_code_row = some ⟨oc_law_code_row, od_law_code_row, .func (PySem.W.fnOf "_law_code_row" "_law_code_row" (defArgs s_law_code_row) (defBody s_law_code_row) (defScope s_law_code_row) .none kV_law_code_row dc_law_code_row pm_law_code_row an_law_code_row cd_law_code_row ct_law_code_row), sl_law_code_row⟩) (c_law_code_row : PySem.W.codeIn K cd_law_code_row "_law_code_row" = true) (k_law_code_row : PySem.W.keepIn K (.ref f_law_code_row) = true)
    (a_law_last_row : PySem.W.nsIn K mainGlobals "_law_last_row" = some (some (.ref f_law_last_row))) (l_law_last_row : K.lookup f_law_last_row = some ⟨oc_law_last_row, od_law_last_row, .func (PySem.W.fnOf "_law_last_row" "_law_last_row" (defArgs s_law_last_row) (defBody s_law_last_row) (defScope s_law_last_row) .none kV_law_last_row dc_law_last_row pm_law_last_row an_law_last_row cd_law_last_row ct_law_last_row), sl_law_last_row⟩) (c_law_last_row : PySem.W.codeIn K cd_law_last_row "_law_last_row" = true) (k_law_last_row : PySem.W.keepIn K (.ref f_law_last_row) = true)
    (a_law_data_row : PySem.W.nsIn K mainGlobals "_law_data_row" = some (some (.ref f_law_data_row))) (l_law_data_row : K.lookup f_law_data_row = some ⟨oc_law_data_row, od_law_data_row, .func (PySem.W.fnOf "_law_data_row" "_law_data_row" (defArgs s_law_data_row) (defBody s_law_data_row) (defScope s_law_data_row) .none kV_law_data_row dc_law_data_row pm_law_data_row an_law_data_row cd_law_data_row ct_law_data_row), sl_law_data_row⟩) (c_law_data_row : PySem.W.codeIn K cd_law_data_row "_law_data_row" = true) (k_law_data_row : PySem.W.keepIn K (.ref f_law_data_row) = true)
    (a_law_piece_model : PySem.W.nsIn K mainGlobals "_law_piece_model" = some (some (.ref f_law_piece_model))) (l_law_piece_model : K.lookup f_law_piece_model = some ⟨oc_law_piece_model, od_law_piece_model, .func (PySem.W.fnOf "_law_piece_model" "_law_piece_model" (defArgs s_law_piece_model) (defBody s_law_piece_model) (defScope s_law_piece_model) .none kV_law_piece_model dc_law_piece_model pm_law_piece_model an_law_piece_model cd_law_piece_model ct_law_piece_model), sl_law_piece_model⟩) (c_law_piece_model : PySem.W.codeIn K cd_law_piece_model "_law_piece_model" = true) (k_law_piece_model : PySem.W.keepIn K (.ref f_law_piece_model) = true)
    (a_law_is_title : PySem.W.nsIn K mainGlobals "_law_is_title" = some (some (.ref f_law_is_title))) (l_law_is_title : K.lookup f_law_is_title = some ⟨oc_law_is_title, od_law_is_title, .func (PySem.W.fnOf "_law_is_title" "_law_is_title" (defArgs s_law_is_title) (defBody s_law_is_title) (defScope s_law_is_title) .none kV_law_is_title dc_law_is_title pm_law_is_title an_law_is_title cd_law_is_title ct_law_is_title), sl_law_is_title⟩) (c_law_is_title : PySem.W.codeIn K cd_law_is_title "_law_is_title" = true) (k_law_is_title : PySem.W.keepIn K (.ref f_law_is_title) = true)
    (a_law_within : PySem.W.nsIn K mainGlobals "_law_within" = some (some (.ref f_law_within))) (l_law_within : K.lookup f_law_within = some ⟨oc_law_within, od_law_within, .func (PySem.W.fnOf "_law_within" "_law_within" (defArgs s_law_within) (defBody s_law_within) (defScope s_law_within) .none kV_law_within dc_law_within pm_law_within an_law_within cd_law_within ct_law_within), sl_law_within⟩) (c_law_within : PySem.W.codeIn K cd_law_within "_law_within" = true) (k_law_within : PySem.W.keepIn K (.ref f_law_within) = true)
    (a_law_code_so : PySem.W.nsIn K mainGlobals "_law_code_so" = some (some (.ref f_law_code_so))) (l_law_code_so : K.lookup f_law_code_so = some ⟨oc_law_code_so, od_law_code_so, .func (PySem.W.fnOf "_law_code_so" "_law_code_so" (defArgs s_law_code_so) (defBody s_law_code_so) (defScope s_law_code_so) .none kV_law_code_so dc_law_code_so pm_law_code_so an_law_code_so cd_law_code_so ct_law_code_so), sl_law_code_so⟩) (c_law_code_so : PySem.W.codeIn K cd_law_code_so "_law_code_so" = true) (k_law_code_so : PySem.W.keepIn K (.ref f_law_code_so) = true)
    (a_law_data_so : PySem.W.nsIn K mainGlobals "_law_data_so" = some (some (.ref f_law_data_so))) (l_law_data_so : K.lookup f_law_data_so = some ⟨oc_law_data_so, od_law_data_so, .func (PySem.W.fnOf "_law_data_so" "_law_data_so" (defArgs s_law_data_so) (defBody s_law_data_so) (defScope s_law_data_so) .none kV_law_data_so dc_law_data_so pm_law_data_so an_law_data_so cd_law_data_so ct_law_data_so), sl_law_data_so⟩) (c_law_data_so : PySem.W.codeIn K cd_law_data_so "_law_data_so" = true) (k_law_data_so : PySem.W.keepIn K (.ref f_law_data_so) = true)
    (a_law_wrong_rows : PySem.W.nsIn K mainGlobals "_law_wrong_rows" = some (some (.ref f_law_wrong_rows))) (l_law_wrong_rows : K.lookup f_law_wrong_rows = some ⟨oc_law_wrong_rows, od_law_wrong_rows, .func (PySem.W.fnOf "_law_wrong_rows" "_law_wrong_rows" (defArgs s_law_wrong_rows) (defBody s_law_wrong_rows) (defScope s_law_wrong_rows) .none kV_law_wrong_rows dc_law_wrong_rows pm_law_wrong_rows an_law_wrong_rows cd_law_wrong_rows ct_law_wrong_rows), sl_law_wrong_rows⟩) (c_law_wrong_rows : PySem.W.codeIn K cd_law_wrong_rows "_law_wrong_rows" = true) (k_law_wrong_rows : PySem.W.keepIn K (.ref f_law_wrong_rows) = true)
    (a_law_due : PySem.W.nsIn K mainGlobals "_law_due" = some (some (.ref f_law_due))) (l_law_due : K.lookup f_law_due = some ⟨oc_law_due, od_law_due, .func (PySem.W.fnOf "_law_due" "_law_due" (defArgs s_law_due) (defBody s_law_due) (defScope s_law_due) .none kV_law_due dc_law_due pm_law_due an_law_due cd_law_due ct_law_due), sl_law_due⟩) (c_law_due : PySem.W.codeIn K cd_law_due "_law_due" = true) (k_law_due : PySem.W.keepIn K (.ref f_law_due) = true)
    (a_law_written_so : PySem.W.nsIn K mainGlobals "_law_written_so" = some (some (.ref f_law_written_so))) (l_law_written_so : K.lookup f_law_written_so = some ⟨oc_law_written_so, od_law_written_so, .func (PySem.W.fnOf "_law_written_so" "_law_written_so" (defArgs s_law_written_so) (defBody s_law_written_so) (defScope s_law_written_so) .none kV_law_written_so dc_law_written_so pm_law_written_so an_law_written_so (.ref cc_law_written_so) ct_law_written_so), sl_law_written_so⟩) (c_law_written_so : PySem.W.codeIn K (.ref cc_law_written_so) "_law_written_so" = true) (k_law_written_so : PySem.W.keepIn K (.ref f_law_written_so) = true)
    (a_law : PySem.W.nsIn K mainGlobals "law" = some (some (.ref f_law))) (l_law : K.lookup f_law = some ⟨oc_law, od_law, .func (PySem.W.fnOf "law" "law" (defArgs s_law) (defBody s_law) (defScope s_law) .none kV_law dc_law pm_law an_law (.ref cc_law) ct_law), sl_law⟩) (c_law : PySem.W.codeIn K (.ref cc_law) "law" = true) (k_law : PySem.W.keepIn K (.ref f_law) = true)
    (aC_Piece : PySem.W.nsIn K mainGlobals "Piece" = some (some (.ref f_C_Piece))) (pg_Piece : PySem.W.plainGet K f_C_Piece Str.empty = true) (hd_Piece : PySem.W.hasDictIn K f_C_Piece = true) (po_Piece : PySem.W.plainOver K f_C_Piece = true) (sa_Piece : PySem.W.findIn K (.ref f_C_Piece) "__setattr__" = some (some (.builtin "object.__setattr__"))) (mkk_Piece : PySem.W.makesIn K f_C_Piece = true) (kc_Piece : PySem.W.keepIn K (.ref f_C_Piece) = true)
    (nf_Piece_name : PySem.W.findIn K (.ref f_C_Piece) "name" = some none)
    (nf_Piece_part : PySem.W.findIn K (.ref f_C_Piece) "part" = some none)
    (nf_Piece_alignment : PySem.W.findIn K (.ref f_C_Piece) "alignment" = some none)
    (nf_Piece_scope : PySem.W.findIn K (.ref f_C_Piece) "scope" = some none)
    (nf_Piece_keep : PySem.W.findIn K (.ref f_C_Piece) "keep" = some none)
    (nf_Piece__rows : PySem.W.findIn K (.ref f_C_Piece) "_rows" = some none)
    (ha_Piece : PySem.W.findIn K (.ref f_C_Piece) "__class__" = some (some (.builtin "object.__class__"))) (hn_Piece : PySem.W.specialIn K (.builtin "object.__class__") "__get__" = some (some (.builtin "getset_descriptor.__get__"))) (htk_Piece : PySem.W.takesIn K (.builtin "object.__class__") = some true) (hm_Piece : PySem.W.mroIn K f_C_Piece (.type "object") = some true) (me_Piece : PySem.W.kitOne K (.ref f_C_Piece) (.ref f_C_Piece) = some true) (ne_Piece : PySem.W.findIn K (.ref f_C_Piece) "__ne__" = some (some (.builtin "object.__ne__")))
    (it_Piece_NoneType : PySem.W.kitOne K (.type "NoneType") (.ref f_C_Piece) = some false)
    (it_Piece_bool : PySem.W.kitOne K (.type "bool") (.ref f_C_Piece) = some false)
    (it_Piece_int : PySem.W.kitOne K (.type "int") (.ref f_C_Piece) = some false)
    (it_Piece_str : PySem.W.kitOne K (.type "str") (.ref f_C_Piece) = some false)
    (it_Piece_list : PySem.W.kitOne K (.type "list") (.ref f_C_Piece) = some false)
    (it_Piece_tuple : PySem.W.kitOne K (.type "tuple") (.ref f_C_Piece) = some false)
    (n_abs : PySem.W.nsIn K mainGlobals "abs" = some none)
    (n_all : PySem.W.nsIn K mainGlobals "all" = some none)
    (n_bool : PySem.W.nsIn K mainGlobals "bool" = some none)
    (n_enumerate : PySem.W.nsIn K mainGlobals "enumerate" = some none)
    (n_int : PySem.W.nsIn K mainGlobals "int" = some none)
    (n_isinstance : PySem.W.nsIn K mainGlobals "isinstance" = some none)
    (n_len : PySem.W.nsIn K mainGlobals "len" = some none)
    (n_list : PySem.W.nsIn K mainGlobals "list" = some none)
    (n_range : PySem.W.nsIn K mainGlobals "range" = some none)
    (n_str : PySem.W.nsIn K mainGlobals "str" = some none)
    (n_tuple : PySem.W.nsIn K mainGlobals "tuple" = some none)
    (n_zip : PySem.W.nsIn K mainGlobals "zip" = some none)
    {tk_MOST_LETTERS : Tok} (g_MOST_LETTERS : PySem.W.nsIn K mainGlobals "MOST_LETTERS" = some (some (.int 6 tk_MOST_LETTERS)))
    (g_REGISTERS : PySem.W.nsIn K mainGlobals "REGISTERS" = some (some (.ref q_REGISTERS)))
    {qi_REGISTERS : Array Value} {qn_REGISTERS : Nat} {qs_REGISTERS : Array (Option Value)} (v_REGISTERS : K.lookup q_REGISTERS = some ⟨.type "tuple", none, .seq qi_REGISTERS qn_REGISTERS, qs_REGISTERS⟩) (w_REGISTERS : Vals [.str "r0", .str "r1", .str "r2"] qi_REGISTERS.toList)
    (g_CODE_ROWS : PySem.W.nsIn K mainGlobals "CODE_ROWS" = some (some (.ref q_CODE_ROWS)))
    (g_DATA_ROWS : PySem.W.nsIn K mainGlobals "DATA_ROWS" = some (some (.ref q_DATA_ROWS)))
    (g_BOUNDS : PySem.W.nsIn K mainGlobals "BOUNDS" = some (some (.ref q_BOUNDS)))
    (g_CLOSING : PySem.W.nsIn K mainGlobals "CLOSING" = some (some (.ref q_CLOSING)))
    {qi_CLOSING : Array Value} {qn_CLOSING : Nat} {qs_CLOSING : Array (Option Value)} (v_CLOSING : K.lookup q_CLOSING = some ⟨.type "tuple", none, .seq qi_CLOSING qn_CLOSING, qs_CLOSING⟩) (w_CLOSING : Vals [.str "jump", .str "halt", .str "back"] qi_CLOSING.toList)
    (g_PARTS : PySem.W.nsIn K mainGlobals "PARTS" = some (some (.ref q_PARTS)))
    {qi_PARTS : Array Value} {qn_PARTS : Nat} {qs_PARTS : Array (Option Value)} (v_PARTS : K.lookup q_PARTS = some ⟨.type "tuple", none, .seq qi_PARTS qn_PARTS, qs_PARTS⟩) (w_PARTS : Vals [.str "code", .str "data"] qi_PARTS.toList)
    (g_ALIGNMENTS : PySem.W.nsIn K mainGlobals "ALIGNMENTS" = some (some (.ref q_ALIGNMENTS)))
    {qi_ALIGNMENTS : Array Value} {qn_ALIGNMENTS : Nat} {qs_ALIGNMENTS : Array (Option Value)} (v_ALIGNMENTS : K.lookup q_ALIGNMENTS = some ⟨.type "tuple", none, .seq qi_ALIGNMENTS qn_ALIGNMENTS, qs_ALIGNMENTS⟩) (w_ALIGNMENTS : Vals [.int 1, .int 2, .int 4, .int 8, .int 16] qi_ALIGNMENTS.toList)
    (g_SCOPES : PySem.W.nsIn K mainGlobals "SCOPES" = some (some (.ref q_SCOPES)))
    {qi_SCOPES : Array Value} {qn_SCOPES : Nat} {qs_SCOPES : Array (Option Value)} (v_SCOPES : K.lookup q_SCOPES = some ⟨.type "tuple", none, .seq qi_SCOPES qn_SCOPES, qs_SCOPES⟩) (w_SCOPES : Vals [.str "local", .str "export", .str "open", .str "weak"] qi_SCOPES.toList)
    {tk_MOST_ROWS : Tok} (g_MOST_ROWS : PySem.W.nsIn K mainGlobals "MOST_ROWS" = some (some (.int 16 tk_MOST_ROWS)))
    {qe_CODE_ROWS : Array DictEntry} {qz_CODE_ROWS : Nat} (dl_CODE_ROWS : K.lookup q_CODE_ROWS = some ⟨.type "dict", none, .dict qe_CODE_ROWS qz_CODE_ROWS, #[]⟩) (dk_CODE_ROWS : PySem.W.KeysLit w.params qe_CODE_ROWS.toList) (dw_CODE_ROWS : (q_CODE_ROWS == sysModules) = false)
    {t_CODE_ROWS_put : Addr}
    {t_CODE_ROWS_name : Addr}
    {t_CODE_ROWS_add : Addr}
    {t_CODE_ROWS_take : Addr}
    {t_CODE_ROWS_load : Addr}
    {t_CODE_ROWS_store : Addr}
    {t_CODE_ROWS_jump : Addr}
    {t_CODE_ROWS_ifzero : Addr}
    {t_CODE_ROWS_call : Addr}
    {t_CODE_ROWS_callby : Addr}
    {t_CODE_ROWS_back : Addr}
    {t_CODE_ROWS_out : Addr}
    {t_CODE_ROWS_halt : Addr}
    {t_CODE_ROWS_room : Addr}
    (pe_CODE_ROWS : Paired (fun (d : DictEntry) (p : Str × Value) => (∃ t, d.key = .str p.1 t) ∧ d.val = p.2) qe_CODE_ROWS.toList [("put", Value.ref t_CODE_ROWS_put), ("name", Value.ref t_CODE_ROWS_name), ("add", Value.ref t_CODE_ROWS_add), ("take", Value.ref t_CODE_ROWS_take), ("load", Value.ref t_CODE_ROWS_load), ("store", Value.ref t_CODE_ROWS_store), ("jump", Value.ref t_CODE_ROWS_jump), ("ifzero", Value.ref t_CODE_ROWS_ifzero), ("call", Value.ref t_CODE_ROWS_call), ("callby", Value.ref t_CODE_ROWS_callby), ("back", Value.ref t_CODE_ROWS_back), ("out", Value.ref t_CODE_ROWS_out), ("halt", Value.ref t_CODE_ROWS_halt), ("room", Value.ref t_CODE_ROWS_room)])
    {yd_CODE_ROWS_put : Option Addr} {yi_CODE_ROWS_put : Array Value} {yn_CODE_ROWS_put : Nat} {ys_CODE_ROWS_put : Array (Option Value)} (y_CODE_ROWS_put : K.lookup t_CODE_ROWS_put = some ⟨.type "tuple", yd_CODE_ROWS_put, .seq yi_CODE_ROWS_put yn_CODE_ROWS_put, ys_CODE_ROWS_put⟩) (u_CODE_ROWS_put : Vals [.str "R", .str "n"] yi_CODE_ROWS_put.toList)
    {yd_CODE_ROWS_name : Option Addr} {yi_CODE_ROWS_name : Array Value} {yn_CODE_ROWS_name : Nat} {ys_CODE_ROWS_name : Array (Option Value)} (y_CODE_ROWS_name : K.lookup t_CODE_ROWS_name = some ⟨.type "tuple", yd_CODE_ROWS_name, .seq yi_CODE_ROWS_name yn_CODE_ROWS_name, ys_CODE_ROWS_name⟩) (u_CODE_ROWS_name : Vals [.str "R", .str "N"] yi_CODE_ROWS_name.toList)
    {yd_CODE_ROWS_add : Option Addr} {yi_CODE_ROWS_add : Array Value} {yn_CODE_ROWS_add : Nat} {ys_CODE_ROWS_add : Array (Option Value)} (y_CODE_ROWS_add : K.lookup t_CODE_ROWS_add = some ⟨.type "tuple", yd_CODE_ROWS_add, .seq yi_CODE_ROWS_add yn_CODE_ROWS_add, ys_CODE_ROWS_add⟩) (u_CODE_ROWS_add : Vals [.str "R", .str "R"] yi_CODE_ROWS_add.toList)
    {yd_CODE_ROWS_take : Option Addr} {yi_CODE_ROWS_take : Array Value} {yn_CODE_ROWS_take : Nat} {ys_CODE_ROWS_take : Array (Option Value)} (y_CODE_ROWS_take : K.lookup t_CODE_ROWS_take = some ⟨.type "tuple", yd_CODE_ROWS_take, .seq yi_CODE_ROWS_take yn_CODE_ROWS_take, ys_CODE_ROWS_take⟩) (u_CODE_ROWS_take : Vals [.str "R", .str "R"] yi_CODE_ROWS_take.toList)
    {yd_CODE_ROWS_load : Option Addr} {yi_CODE_ROWS_load : Array Value} {yn_CODE_ROWS_load : Nat} {ys_CODE_ROWS_load : Array (Option Value)} (y_CODE_ROWS_load : K.lookup t_CODE_ROWS_load = some ⟨.type "tuple", yd_CODE_ROWS_load, .seq yi_CODE_ROWS_load yn_CODE_ROWS_load, ys_CODE_ROWS_load⟩) (u_CODE_ROWS_load : Vals [.str "R", .str "R", .str "d"] yi_CODE_ROWS_load.toList)
    {yd_CODE_ROWS_store : Option Addr} {yi_CODE_ROWS_store : Array Value} {yn_CODE_ROWS_store : Nat} {ys_CODE_ROWS_store : Array (Option Value)} (y_CODE_ROWS_store : K.lookup t_CODE_ROWS_store = some ⟨.type "tuple", yd_CODE_ROWS_store, .seq yi_CODE_ROWS_store yn_CODE_ROWS_store, ys_CODE_ROWS_store⟩) (u_CODE_ROWS_store : Vals [.str "R", .str "R", .str "d"] yi_CODE_ROWS_store.toList)
    {yd_CODE_ROWS_jump : Option Addr} {yi_CODE_ROWS_jump : Array Value} {yn_CODE_ROWS_jump : Nat} {ys_CODE_ROWS_jump : Array (Option Value)} (y_CODE_ROWS_jump : K.lookup t_CODE_ROWS_jump = some ⟨.type "tuple", yd_CODE_ROWS_jump, .seq yi_CODE_ROWS_jump yn_CODE_ROWS_jump, ys_CODE_ROWS_jump⟩) (u_CODE_ROWS_jump : Vals [.str "N"] yi_CODE_ROWS_jump.toList)
    {yd_CODE_ROWS_ifzero : Option Addr} {yi_CODE_ROWS_ifzero : Array Value} {yn_CODE_ROWS_ifzero : Nat} {ys_CODE_ROWS_ifzero : Array (Option Value)} (y_CODE_ROWS_ifzero : K.lookup t_CODE_ROWS_ifzero = some ⟨.type "tuple", yd_CODE_ROWS_ifzero, .seq yi_CODE_ROWS_ifzero yn_CODE_ROWS_ifzero, ys_CODE_ROWS_ifzero⟩) (u_CODE_ROWS_ifzero : Vals [.str "R", .str "N"] yi_CODE_ROWS_ifzero.toList)
    {yd_CODE_ROWS_call : Option Addr} {yi_CODE_ROWS_call : Array Value} {yn_CODE_ROWS_call : Nat} {ys_CODE_ROWS_call : Array (Option Value)} (y_CODE_ROWS_call : K.lookup t_CODE_ROWS_call = some ⟨.type "tuple", yd_CODE_ROWS_call, .seq yi_CODE_ROWS_call yn_CODE_ROWS_call, ys_CODE_ROWS_call⟩) (u_CODE_ROWS_call : Vals [.str "N"] yi_CODE_ROWS_call.toList)
    {yd_CODE_ROWS_callby : Option Addr} {yi_CODE_ROWS_callby : Array Value} {yn_CODE_ROWS_callby : Nat} {ys_CODE_ROWS_callby : Array (Option Value)} (y_CODE_ROWS_callby : K.lookup t_CODE_ROWS_callby = some ⟨.type "tuple", yd_CODE_ROWS_callby, .seq yi_CODE_ROWS_callby yn_CODE_ROWS_callby, ys_CODE_ROWS_callby⟩) (u_CODE_ROWS_callby : Vals [.str "R"] yi_CODE_ROWS_callby.toList)
    {yd_CODE_ROWS_back : Option Addr} {yi_CODE_ROWS_back : Array Value} {yn_CODE_ROWS_back : Nat} {ys_CODE_ROWS_back : Array (Option Value)} (y_CODE_ROWS_back : K.lookup t_CODE_ROWS_back = some ⟨.type "tuple", yd_CODE_ROWS_back, .seq yi_CODE_ROWS_back yn_CODE_ROWS_back, ys_CODE_ROWS_back⟩) (u_CODE_ROWS_back : Vals [] yi_CODE_ROWS_back.toList)
    {yd_CODE_ROWS_out : Option Addr} {yi_CODE_ROWS_out : Array Value} {yn_CODE_ROWS_out : Nat} {ys_CODE_ROWS_out : Array (Option Value)} (y_CODE_ROWS_out : K.lookup t_CODE_ROWS_out = some ⟨.type "tuple", yd_CODE_ROWS_out, .seq yi_CODE_ROWS_out yn_CODE_ROWS_out, ys_CODE_ROWS_out⟩) (u_CODE_ROWS_out : Vals [.str "R"] yi_CODE_ROWS_out.toList)
    {yd_CODE_ROWS_halt : Option Addr} {yi_CODE_ROWS_halt : Array Value} {yn_CODE_ROWS_halt : Nat} {ys_CODE_ROWS_halt : Array (Option Value)} (y_CODE_ROWS_halt : K.lookup t_CODE_ROWS_halt = some ⟨.type "tuple", yd_CODE_ROWS_halt, .seq yi_CODE_ROWS_halt yn_CODE_ROWS_halt, ys_CODE_ROWS_halt⟩) (u_CODE_ROWS_halt : Vals [] yi_CODE_ROWS_halt.toList)
    {yd_CODE_ROWS_room : Option Addr} {yi_CODE_ROWS_room : Array Value} {yn_CODE_ROWS_room : Nat} {ys_CODE_ROWS_room : Array (Option Value)} (y_CODE_ROWS_room : K.lookup t_CODE_ROWS_room = some ⟨.type "tuple", yd_CODE_ROWS_room, .seq yi_CODE_ROWS_room yn_CODE_ROWS_room, ys_CODE_ROWS_room⟩) (u_CODE_ROWS_room : Vals [.str "k"] yi_CODE_ROWS_room.toList)
    {qe_DATA_ROWS : Array DictEntry} {qz_DATA_ROWS : Nat} (dl_DATA_ROWS : K.lookup q_DATA_ROWS = some ⟨.type "dict", none, .dict qe_DATA_ROWS qz_DATA_ROWS, #[]⟩) (dk_DATA_ROWS : PySem.W.KeysLit w.params qe_DATA_ROWS.toList) (dw_DATA_ROWS : (q_DATA_ROWS == sysModules) = false)
    {t_DATA_ROWS_word : Addr}
    {t_DATA_ROWS_address : Addr}
    {t_DATA_ROWS_room : Addr}
    (pe_DATA_ROWS : Paired (fun (d : DictEntry) (p : Str × Value) => (∃ t, d.key = .str p.1 t) ∧ d.val = p.2) qe_DATA_ROWS.toList [("word", Value.ref t_DATA_ROWS_word), ("address", Value.ref t_DATA_ROWS_address), ("room", Value.ref t_DATA_ROWS_room)])
    {yd_DATA_ROWS_word : Option Addr} {yi_DATA_ROWS_word : Array Value} {yn_DATA_ROWS_word : Nat} {ys_DATA_ROWS_word : Array (Option Value)} (y_DATA_ROWS_word : K.lookup t_DATA_ROWS_word = some ⟨.type "tuple", yd_DATA_ROWS_word, .seq yi_DATA_ROWS_word yn_DATA_ROWS_word, ys_DATA_ROWS_word⟩) (u_DATA_ROWS_word : Vals [.str "n"] yi_DATA_ROWS_word.toList)
    {yd_DATA_ROWS_address : Option Addr} {yi_DATA_ROWS_address : Array Value} {yn_DATA_ROWS_address : Nat} {ys_DATA_ROWS_address : Array (Option Value)} (y_DATA_ROWS_address : K.lookup t_DATA_ROWS_address = some ⟨.type "tuple", yd_DATA_ROWS_address, .seq yi_DATA_ROWS_address yn_DATA_ROWS_address, ys_DATA_ROWS_address⟩) (u_DATA_ROWS_address : Vals [.str "N"] yi_DATA_ROWS_address.toList)
    {yd_DATA_ROWS_room : Option Addr} {yi_DATA_ROWS_room : Array Value} {yn_DATA_ROWS_room : Nat} {ys_DATA_ROWS_room : Array (Option Value)} (y_DATA_ROWS_room : K.lookup t_DATA_ROWS_room = some ⟨.type "tuple", yd_DATA_ROWS_room, .seq yi_DATA_ROWS_room yn_DATA_ROWS_room, ys_DATA_ROWS_room⟩) (u_DATA_ROWS_room : Vals [.str "k"] yi_DATA_ROWS_room.toList)
    {qe_BOUNDS : Array DictEntry} {qz_BOUNDS : Nat} (dl_BOUNDS : K.lookup q_BOUNDS = some ⟨.type "dict", none, .dict qe_BOUNDS qz_BOUNDS, #[]⟩) (dk_BOUNDS : PySem.W.KeysLit w.params qe_BOUNDS.toList) (dw_BOUNDS : (q_BOUNDS == sysModules) = false)
    {t_BOUNDS_n : Addr}
    {t_BOUNDS_d : Addr}
    {t_BOUNDS_k : Addr}
    (pe_BOUNDS : Paired (fun (d : DictEntry) (p : Str × Value) => (∃ t, d.key = .str p.1 t) ∧ d.val = p.2) qe_BOUNDS.toList [("n", Value.ref t_BOUNDS_n), ("d", Value.ref t_BOUNDS_d), ("k", Value.ref t_BOUNDS_k)])
    {yd_BOUNDS_n : Option Addr} {yi_BOUNDS_n : Array Value} {yn_BOUNDS_n : Nat} {ys_BOUNDS_n : Array (Option Value)} (y_BOUNDS_n : K.lookup t_BOUNDS_n = some ⟨.type "tuple", yd_BOUNDS_n, .seq yi_BOUNDS_n yn_BOUNDS_n, ys_BOUNDS_n⟩) (u_BOUNDS_n : Vals [.int 0, .int 65535] yi_BOUNDS_n.toList)
    {yd_BOUNDS_d : Option Addr} {yi_BOUNDS_d : Array Value} {yn_BOUNDS_d : Nat} {ys_BOUNDS_d : Array (Option Value)} (y_BOUNDS_d : K.lookup t_BOUNDS_d = some ⟨.type "tuple", yd_BOUNDS_d, .seq yi_BOUNDS_d yn_BOUNDS_d, ys_BOUNDS_d⟩) (u_BOUNDS_d : Vals [.int 0, .int 15] yi_BOUNDS_d.toList)
    {yd_BOUNDS_k : Option Addr} {yi_BOUNDS_k : Array Value} {yn_BOUNDS_k : Nat} {ys_BOUNDS_k : Array (Option Value)} (y_BOUNDS_k : K.lookup t_BOUNDS_k = some ⟨.type "tuple", yd_BOUNDS_k, .seq yi_BOUNDS_k yn_BOUNDS_k, ys_BOUNDS_k⟩) (u_BOUNDS_k : Vals [.int 1, .int 120] yi_BOUNDS_k.toList)
    (lc_law_written_so : K.lookup cc_law_written_so = some ⟨tcl_law_written_so, tcd_law_written_so, .fields tvs_law_written_so, tcs_law_written_so⟩) (tp_law_written_so : tvs_law_written_so[11]? = some (.ref pp_law_written_so)) (hd_law_written_so : PySem.W.codeHdIn K cc_law_written_so pp_law_written_so = true) (np_law_written_so : K.lookup pp_law_written_so = none) (tt_law_written_so : h.get? pp_law_written_so = some { cls := .none, data := .fields #[] })
    (lc_law : K.lookup cc_law = some ⟨tcl_law, tcd_law, .fields tvs_law, tcs_law⟩) (tp_law : tvs_law[11]? = some (.ref pp_law)) (hd_law : PySem.W.codeHdIn K cc_law pp_law = true) (np_law : K.lookup pp_law = none) (tt_law : h.get? pp_law = some { cls := .none, data := .fields #[] })
    (dd_0_1 : pp_law_written_so ≠ pp_law)
    {E_ImageError : Addr} (eA_ImageError : PySem.W.nsIn K mainGlobals "ImageError" = some (some (.ref E_ImageError)))
    {E_Missing : Addr} (eA_Missing : PySem.W.nsIn K mainGlobals "Missing" = some (some (.ref E_Missing)))
    {E_InvalidName : Addr} (eA_InvalidName : PySem.W.nsIn K mainGlobals "InvalidName" = some (some (.ref E_InvalidName)))
    {E_InvalidPart : Addr} (eA_InvalidPart : PySem.W.nsIn K mainGlobals "InvalidPart" = some (some (.ref E_InvalidPart)))
    {E_InvalidAlignment : Addr} (eA_InvalidAlignment : PySem.W.nsIn K mainGlobals "InvalidAlignment" = some (some (.ref E_InvalidAlignment)))
    {E_InvalidScope : Addr} (eA_InvalidScope : PySem.W.nsIn K mainGlobals "InvalidScope" = some (some (.ref E_InvalidScope)))
    {E_InvalidRow : Addr} (eA_InvalidRow : PySem.W.nsIn K mainGlobals "InvalidRow" = some (some (.ref E_InvalidRow)))
    {E_NotClosing : Addr} (eA_NotClosing : PySem.W.nsIn K mainGlobals "NotClosing" = some (some (.ref E_NotClosing)))
    {E_TooMany : Addr} (eA_TooMany : PySem.W.nsIn K mainGlobals "TooMany" = some (some (.ref E_TooMany)))
    (nsS : PySem.W.nsIn K mainGlobals "super" = some none) (opq : PySem.W.nsIn K PySem.cStatics "thirdparty.any" = some none)
    (ei_InvalidName : PySem.W.findIn K (.ref E_InvalidName) "__init__" = some (some (.ref fi_InvalidName))) (el_InvalidName : K.lookup fi_InvalidName = some ⟨oc_InvalidName, od_InvalidName, .func (PySem.W.ksFn "__init__" "InvalidName.__init__" (defArgs s_E_InvalidName) (defBody s_E_InvalidName) (defScope s_E_InvalidName) .none kV_InvalidName dc_InvalidName pm_InvalidName an_InvalidName (.ref cda_InvalidName) ct_InvalidName cl_InvalidName), os_InvalidName⟩)
    (eco_InvalidName : PySem.W.codeIn K (.ref cda_InvalidName) "InvalidName.__init__" = true) (elc_InvalidName : K.lookup cda_InvalidName = some ⟨ccl_InvalidName, cdd_InvalidName, .fields vsC_InvalidName, ccs_InvalidName⟩) (ef_InvalidName : vsC_InvalidName[2]? = some (.str FL tf_InvalidName)) (ece_InvalidName : K.lookup cl_InvalidName = some ⟨ccv_InvalidName, cld_InvalidName, .cell (some (.ref E_InvalidName)), csl_InvalidName⟩) (ecl_InvalidName : PySem.W.clsIn K E_InvalidName = some cd_InvalidName)
    (eC_InvalidName : K.lookup E_InvalidName = some (excClassObj nm_InvalidName q_InvalidName E_InvalidName N_InvalidName bs_InvalidName bm_InvalidName true sn_InvalidName sub_InvalidName ab_InvalidName col_InvalidName dd_InvalidName k0_InvalidName k1_InvalidName k2_InvalidName k3_InvalidName k5_InvalidName "ValueError.__new__")) (erf_InvalidName : PySem.HandSPX.refsVE bm_InvalidName = true) (esa_InvalidName : PySem.W.findIn K (.ref E_InvalidName) "__setattr__" = some (some (.builtin "object.__setattr__"))) (eex_InvalidName : PySem.W.subIn K (.ref E_InvalidName) (.type "BaseException") = some true) (ety_InvalidName : PySem.W.typeIn K (.ref E_InvalidName) = some (.type "type")) (ek_InvalidName : PySem.W.keepIn K (.ref E_InvalidName) = true)
    (emr_InvalidName : PySem.W.mroIn K E_InvalidName (.ref E_InvalidName) = some true) (esI_InvalidName : PySem.W.ks_superIn K E_InvalidName E_InvalidName "__init__" = some (some (.builtin "ValueError.__init__"))) (eB_InvalidName : PySem.W.subIn K (.ref E_InvalidName) (.type "ValueError") = some true) (etI_InvalidName : PySem.W.typeIn K (.ref fi_InvalidName) = some (.type "function")) (emd_InvalidName : PySem.W.excInitIn K E_InvalidName (bmOf PySem.F.excBase_ValueError) "ValueError.__new__" = true) (exf_InvalidName : xfB K E_InvalidName = true)
    (en_InvalidName_value : PySem.W.findIn K (.ref E_InvalidName) "value" = some none)
    (en_InvalidName_code : PySem.W.findIn K (.ref E_InvalidName) "code" = some none)
    (ei_InvalidPart : PySem.W.findIn K (.ref E_InvalidPart) "__init__" = some (some (.ref fi_InvalidPart))) (el_InvalidPart : K.lookup fi_InvalidPart = some ⟨oc_InvalidPart, od_InvalidPart, .func (PySem.W.ksFn "__init__" "InvalidPart.__init__" (defArgs s_E_InvalidPart) (defBody s_E_InvalidPart) (defScope s_E_InvalidPart) .none kV_InvalidPart dc_InvalidPart pm_InvalidPart an_InvalidPart (.ref cda_InvalidPart) ct_InvalidPart cl_InvalidPart), os_InvalidPart⟩)
    (eco_InvalidPart : PySem.W.codeIn K (.ref cda_InvalidPart) "InvalidPart.__init__" = true) (elc_InvalidPart : K.lookup cda_InvalidPart = some ⟨ccl_InvalidPart, cdd_InvalidPart, .fields vsC_InvalidPart, ccs_InvalidPart⟩) (ef_InvalidPart : vsC_InvalidPart[2]? = some (.str FL tf_InvalidPart)) (ece_InvalidPart : K.lookup cl_InvalidPart = some ⟨ccv_InvalidPart, cld_InvalidPart, .cell (some (.ref E_InvalidPart)), csl_InvalidPart⟩) (ecl_InvalidPart : PySem.W.clsIn K E_InvalidPart = some cd_InvalidPart)
    (eC_InvalidPart : K.lookup E_InvalidPart = some (excClassObj nm_InvalidPart q_InvalidPart E_InvalidPart N_InvalidPart bs_InvalidPart bm_InvalidPart true sn_InvalidPart sub_InvalidPart ab_InvalidPart col_InvalidPart dd_InvalidPart k0_InvalidPart k1_InvalidPart k2_InvalidPart k3_InvalidPart k5_InvalidPart "ValueError.__new__")) (erf_InvalidPart : PySem.HandSPX.refsVE bm_InvalidPart = true) (esa_InvalidPart : PySem.W.findIn K (.ref E_InvalidPart) "__setattr__" = some (some (.builtin "object.__setattr__"))) (eex_InvalidPart : PySem.W.subIn K (.ref E_InvalidPart) (.type "BaseException") = some true) (ety_InvalidPart : PySem.W.typeIn K (.ref E_InvalidPart) = some (.type "type")) (ek_InvalidPart : PySem.W.keepIn K (.ref E_InvalidPart) = true)
    (emr_InvalidPart : PySem.W.mroIn K E_InvalidPart (.ref E_InvalidPart) = some true) (esI_InvalidPart : PySem.W.ks_superIn K E_InvalidPart E_InvalidPart "__init__" = some (some (.builtin "ValueError.__init__"))) (eB_InvalidPart : PySem.W.subIn K (.ref E_InvalidPart) (.type "ValueError") = some true) (etI_InvalidPart : PySem.W.typeIn K (.ref fi_InvalidPart) = some (.type "function")) (emd_InvalidPart : PySem.W.excInitIn K E_InvalidPart (bmOf PySem.F.excBase_ValueError) "ValueError.__new__" = true) (exf_InvalidPart : xfB K E_InvalidPart = true)
    (en_InvalidPart_value : PySem.W.findIn K (.ref E_InvalidPart) "value" = some none)
    (en_InvalidPart_code : PySem.W.findIn K (.ref E_InvalidPart) "code" = some none)
    (ei_InvalidAlignment : PySem.W.findIn K (.ref E_InvalidAlignment) "__init__" = some (some (.ref fi_InvalidAlignment))) (el_InvalidAlignment : K.lookup fi_InvalidAlignment = some ⟨oc_InvalidAlignment, od_InvalidAlignment, .func (PySem.W.ksFn "__init__" "InvalidAlignment.__init__" (defArgs s_E_InvalidAlignment) (defBody s_E_InvalidAlignment) (defScope s_E_InvalidAlignment) .none kV_InvalidAlignment dc_InvalidAlignment pm_InvalidAlignment an_InvalidAlignment (.ref cda_InvalidAlignment) ct_InvalidAlignment cl_InvalidAlignment), os_InvalidAlignment⟩)
    (eco_InvalidAlignment : PySem.W.codeIn K (.ref cda_InvalidAlignment) "InvalidAlignment.__init__" = true) (elc_InvalidAlignment : K.lookup cda_InvalidAlignment = some ⟨ccl_InvalidAlignment, cdd_InvalidAlignment, .fields vsC_InvalidAlignment, ccs_InvalidAlignment⟩) (ef_InvalidAlignment : vsC_InvalidAlignment[2]? = some (.str FL tf_InvalidAlignment)) (ece_InvalidAlignment : K.lookup cl_InvalidAlignment = some ⟨ccv_InvalidAlignment, cld_InvalidAlignment, .cell (some (.ref E_InvalidAlignment)), csl_InvalidAlignment⟩) (ecl_InvalidAlignment : PySem.W.clsIn K E_InvalidAlignment = some cd_InvalidAlignment)
    (eC_InvalidAlignment : K.lookup E_InvalidAlignment = some (excClassObj nm_InvalidAlignment q_InvalidAlignment E_InvalidAlignment N_InvalidAlignment bs_InvalidAlignment bm_InvalidAlignment true sn_InvalidAlignment sub_InvalidAlignment ab_InvalidAlignment col_InvalidAlignment dd_InvalidAlignment k0_InvalidAlignment k1_InvalidAlignment k2_InvalidAlignment k3_InvalidAlignment k5_InvalidAlignment "ValueError.__new__")) (erf_InvalidAlignment : PySem.HandSPX.refsVE bm_InvalidAlignment = true) (esa_InvalidAlignment : PySem.W.findIn K (.ref E_InvalidAlignment) "__setattr__" = some (some (.builtin "object.__setattr__"))) (eex_InvalidAlignment : PySem.W.subIn K (.ref E_InvalidAlignment) (.type "BaseException") = some true) (ety_InvalidAlignment : PySem.W.typeIn K (.ref E_InvalidAlignment) = some (.type "type")) (ek_InvalidAlignment : PySem.W.keepIn K (.ref E_InvalidAlignment) = true)
    (emr_InvalidAlignment : PySem.W.mroIn K E_InvalidAlignment (.ref E_InvalidAlignment) = some true) (esI_InvalidAlignment : PySem.W.ks_superIn K E_InvalidAlignment E_InvalidAlignment "__init__" = some (some (.builtin "ValueError.__init__"))) (eB_InvalidAlignment : PySem.W.subIn K (.ref E_InvalidAlignment) (.type "ValueError") = some true) (etI_InvalidAlignment : PySem.W.typeIn K (.ref fi_InvalidAlignment) = some (.type "function")) (emd_InvalidAlignment : PySem.W.excInitIn K E_InvalidAlignment (bmOf PySem.F.excBase_ValueError) "ValueError.__new__" = true) (exf_InvalidAlignment : xfB K E_InvalidAlignment = true)
    (en_InvalidAlignment_value : PySem.W.findIn K (.ref E_InvalidAlignment) "value" = some none)
    (en_InvalidAlignment_code : PySem.W.findIn K (.ref E_InvalidAlignment) "code" = some none)
    (ei_InvalidScope : PySem.W.findIn K (.ref E_InvalidScope) "__init__" = some (some (.ref fi_InvalidScope))) (el_InvalidScope : K.lookup fi_InvalidScope = some ⟨oc_InvalidScope, od_InvalidScope, .func (PySem.W.ksFn "__init__" "InvalidScope.__init__" (defArgs s_E_InvalidScope) (defBody s_E_InvalidScope) (defScope s_E_InvalidScope) .none kV_InvalidScope dc_InvalidScope pm_InvalidScope an_InvalidScope (.ref cda_InvalidScope) ct_InvalidScope cl_InvalidScope), os_InvalidScope⟩)
    (eco_InvalidScope : PySem.W.codeIn K (.ref cda_InvalidScope) "InvalidScope.__init__" = true) (elc_InvalidScope : K.lookup cda_InvalidScope = some ⟨ccl_InvalidScope, cdd_InvalidScope, .fields vsC_InvalidScope, ccs_InvalidScope⟩) (ef_InvalidScope : vsC_InvalidScope[2]? = some (.str FL tf_InvalidScope)) (ece_InvalidScope : K.lookup cl_InvalidScope = some ⟨ccv_InvalidScope, cld_InvalidScope, .cell (some (.ref E_InvalidScope)), csl_InvalidScope⟩) (ecl_InvalidScope : PySem.W.clsIn K E_InvalidScope = some cd_InvalidScope)
    (eC_InvalidScope : K.lookup E_InvalidScope = some (excClassObj nm_InvalidScope q_InvalidScope E_InvalidScope N_InvalidScope bs_InvalidScope bm_InvalidScope true sn_InvalidScope sub_InvalidScope ab_InvalidScope col_InvalidScope dd_InvalidScope k0_InvalidScope k1_InvalidScope k2_InvalidScope k3_InvalidScope k5_InvalidScope "ValueError.__new__")) (erf_InvalidScope : PySem.HandSPX.refsVE bm_InvalidScope = true) (esa_InvalidScope : PySem.W.findIn K (.ref E_InvalidScope) "__setattr__" = some (some (.builtin "object.__setattr__"))) (eex_InvalidScope : PySem.W.subIn K (.ref E_InvalidScope) (.type "BaseException") = some true) (ety_InvalidScope : PySem.W.typeIn K (.ref E_InvalidScope) = some (.type "type")) (ek_InvalidScope : PySem.W.keepIn K (.ref E_InvalidScope) = true)
    (emr_InvalidScope : PySem.W.mroIn K E_InvalidScope (.ref E_InvalidScope) = some true) (esI_InvalidScope : PySem.W.ks_superIn K E_InvalidScope E_InvalidScope "__init__" = some (some (.builtin "ValueError.__init__"))) (eB_InvalidScope : PySem.W.subIn K (.ref E_InvalidScope) (.type "ValueError") = some true) (etI_InvalidScope : PySem.W.typeIn K (.ref fi_InvalidScope) = some (.type "function")) (emd_InvalidScope : PySem.W.excInitIn K E_InvalidScope (bmOf PySem.F.excBase_ValueError) "ValueError.__new__" = true) (exf_InvalidScope : xfB K E_InvalidScope = true)
    (en_InvalidScope_value : PySem.W.findIn K (.ref E_InvalidScope) "value" = some none)
    (en_InvalidScope_code : PySem.W.findIn K (.ref E_InvalidScope) "code" = some none)
    (ei_InvalidRow : PySem.W.findIn K (.ref E_InvalidRow) "__init__" = some (some (.ref fi_InvalidRow))) (el_InvalidRow : K.lookup fi_InvalidRow = some ⟨oc_InvalidRow, od_InvalidRow, .func (PySem.W.ksFn "__init__" "InvalidRow.__init__" (defArgs s_E_InvalidRow) (defBody s_E_InvalidRow) (defScope s_E_InvalidRow) .none kV_InvalidRow dc_InvalidRow pm_InvalidRow an_InvalidRow (.ref cda_InvalidRow) ct_InvalidRow cl_InvalidRow), os_InvalidRow⟩)
    (eco_InvalidRow : PySem.W.codeIn K (.ref cda_InvalidRow) "InvalidRow.__init__" = true) (elc_InvalidRow : K.lookup cda_InvalidRow = some ⟨ccl_InvalidRow, cdd_InvalidRow, .fields vsC_InvalidRow, ccs_InvalidRow⟩) (ef_InvalidRow : vsC_InvalidRow[2]? = some (.str FL tf_InvalidRow)) (ece_InvalidRow : K.lookup cl_InvalidRow = some ⟨ccv_InvalidRow, cld_InvalidRow, .cell (some (.ref E_InvalidRow)), csl_InvalidRow⟩) (ecl_InvalidRow : PySem.W.clsIn K E_InvalidRow = some cd_InvalidRow)
    (eC_InvalidRow : K.lookup E_InvalidRow = some (excClassObj nm_InvalidRow q_InvalidRow E_InvalidRow N_InvalidRow bs_InvalidRow bm_InvalidRow true sn_InvalidRow sub_InvalidRow ab_InvalidRow col_InvalidRow dd_InvalidRow k0_InvalidRow k1_InvalidRow k2_InvalidRow k3_InvalidRow k5_InvalidRow "ValueError.__new__")) (erf_InvalidRow : PySem.HandSPX.refsVE bm_InvalidRow = true) (esa_InvalidRow : PySem.W.findIn K (.ref E_InvalidRow) "__setattr__" = some (some (.builtin "object.__setattr__"))) (eex_InvalidRow : PySem.W.subIn K (.ref E_InvalidRow) (.type "BaseException") = some true) (ety_InvalidRow : PySem.W.typeIn K (.ref E_InvalidRow) = some (.type "type")) (ek_InvalidRow : PySem.W.keepIn K (.ref E_InvalidRow) = true)
    (emr_InvalidRow : PySem.W.mroIn K E_InvalidRow (.ref E_InvalidRow) = some true) (esI_InvalidRow : PySem.W.ks_superIn K E_InvalidRow E_InvalidRow "__init__" = some (some (.builtin "ValueError.__init__"))) (eB_InvalidRow : PySem.W.subIn K (.ref E_InvalidRow) (.type "ValueError") = some true) (etI_InvalidRow : PySem.W.typeIn K (.ref fi_InvalidRow) = some (.type "function")) (emd_InvalidRow : PySem.W.excInitIn K E_InvalidRow (bmOf PySem.F.excBase_ValueError) "ValueError.__new__" = true) (exf_InvalidRow : xfB K E_InvalidRow = true)
    (en_InvalidRow_at : PySem.W.findIn K (.ref E_InvalidRow) "at" = some none)
    (en_InvalidRow_code : PySem.W.findIn K (.ref E_InvalidRow) "code" = some none)
    (ei_NotClosing : PySem.W.findIn K (.ref E_NotClosing) "__init__" = some (some (.ref fi_NotClosing))) (el_NotClosing : K.lookup fi_NotClosing = some ⟨oc_NotClosing, od_NotClosing, .func (PySem.W.ksFn "__init__" "NotClosing.__init__" (defArgs s_E_NotClosing) (defBody s_E_NotClosing) (defScope s_E_NotClosing) .none kV_NotClosing dc_NotClosing pm_NotClosing an_NotClosing (.ref cda_NotClosing) ct_NotClosing cl_NotClosing), os_NotClosing⟩)
    (eco_NotClosing : PySem.W.codeIn K (.ref cda_NotClosing) "NotClosing.__init__" = true) (elc_NotClosing : K.lookup cda_NotClosing = some ⟨ccl_NotClosing, cdd_NotClosing, .fields vsC_NotClosing, ccs_NotClosing⟩) (ef_NotClosing : vsC_NotClosing[2]? = some (.str FL tf_NotClosing)) (ece_NotClosing : K.lookup cl_NotClosing = some ⟨ccv_NotClosing, cld_NotClosing, .cell (some (.ref E_NotClosing)), csl_NotClosing⟩) (ecl_NotClosing : PySem.W.clsIn K E_NotClosing = some cd_NotClosing)
    (eC_NotClosing : K.lookup E_NotClosing = some (excClassObj nm_NotClosing q_NotClosing E_NotClosing N_NotClosing bs_NotClosing bm_NotClosing true sn_NotClosing sub_NotClosing ab_NotClosing col_NotClosing dd_NotClosing k0_NotClosing k1_NotClosing k2_NotClosing k3_NotClosing k5_NotClosing "ValueError.__new__")) (erf_NotClosing : PySem.HandSPX.refsVE bm_NotClosing = true) (esa_NotClosing : PySem.W.findIn K (.ref E_NotClosing) "__setattr__" = some (some (.builtin "object.__setattr__"))) (eex_NotClosing : PySem.W.subIn K (.ref E_NotClosing) (.type "BaseException") = some true) (ety_NotClosing : PySem.W.typeIn K (.ref E_NotClosing) = some (.type "type")) (ek_NotClosing : PySem.W.keepIn K (.ref E_NotClosing) = true)
    (emr_NotClosing : PySem.W.mroIn K E_NotClosing (.ref E_NotClosing) = some true) (esI_NotClosing : PySem.W.ks_superIn K E_NotClosing E_NotClosing "__init__" = some (some (.builtin "ValueError.__init__"))) (eB_NotClosing : PySem.W.subIn K (.ref E_NotClosing) (.type "ValueError") = some true) (etI_NotClosing : PySem.W.typeIn K (.ref fi_NotClosing) = some (.type "function")) (emd_NotClosing : PySem.W.excInitIn K E_NotClosing (bmOf PySem.F.excBase_ValueError) "ValueError.__new__" = true) (exf_NotClosing : xfB K E_NotClosing = true)
    (en_NotClosing_code : PySem.W.findIn K (.ref E_NotClosing) "code" = some none)
    (ei_TooMany : PySem.W.findIn K (.ref E_TooMany) "__init__" = some (some (.ref fi_TooMany))) (el_TooMany : K.lookup fi_TooMany = some ⟨oc_TooMany, od_TooMany, .func (PySem.W.ksFn "__init__" "TooMany.__init__" (defArgs s_E_TooMany) (defBody s_E_TooMany) (defScope s_E_TooMany) .none kV_TooMany dc_TooMany pm_TooMany an_TooMany (.ref cda_TooMany) ct_TooMany cl_TooMany), os_TooMany⟩)
    (eco_TooMany : PySem.W.codeIn K (.ref cda_TooMany) "TooMany.__init__" = true) (elc_TooMany : K.lookup cda_TooMany = some ⟨ccl_TooMany, cdd_TooMany, .fields vsC_TooMany, ccs_TooMany⟩) (ef_TooMany : vsC_TooMany[2]? = some (.str FL tf_TooMany)) (ece_TooMany : K.lookup cl_TooMany = some ⟨ccv_TooMany, cld_TooMany, .cell (some (.ref E_TooMany)), csl_TooMany⟩) (ecl_TooMany : PySem.W.clsIn K E_TooMany = some cd_TooMany)
    (eC_TooMany : K.lookup E_TooMany = some (excClassObj nm_TooMany q_TooMany E_TooMany N_TooMany bs_TooMany bm_TooMany true sn_TooMany sub_TooMany ab_TooMany col_TooMany dd_TooMany k0_TooMany k1_TooMany k2_TooMany k3_TooMany k5_TooMany "ValueError.__new__")) (erf_TooMany : PySem.HandSPX.refsVE bm_TooMany = true) (esa_TooMany : PySem.W.findIn K (.ref E_TooMany) "__setattr__" = some (some (.builtin "object.__setattr__"))) (eex_TooMany : PySem.W.subIn K (.ref E_TooMany) (.type "BaseException") = some true) (ety_TooMany : PySem.W.typeIn K (.ref E_TooMany) = some (.type "type")) (ek_TooMany : PySem.W.keepIn K (.ref E_TooMany) = true)
    (emr_TooMany : PySem.W.mroIn K E_TooMany (.ref E_TooMany) = some true) (esI_TooMany : PySem.W.ks_superIn K E_TooMany E_TooMany "__init__" = some (some (.builtin "ValueError.__init__"))) (eB_TooMany : PySem.W.subIn K (.ref E_TooMany) (.type "ValueError") = some true) (etI_TooMany : PySem.W.typeIn K (.ref fi_TooMany) = some (.type "function")) (emd_TooMany : PySem.W.excInitIn K E_TooMany (bmOf PySem.F.excBase_ValueError) "ValueError.__new__" = true) (exf_TooMany : xfB K E_TooMany = true)
    (en_TooMany_most : PySem.W.findIn K (.ref E_TooMany) "most" = some none)
    (en_TooMany_code : PySem.W.findIn K (.ref E_TooMany) "code" = some none)
    (exm_InvalidName : PySem.W.exmAny K (.ref E_InvalidName) [.ref E_ImageError, .ref E_Missing] = some true)
    (exm_InvalidPart : PySem.W.exmAny K (.ref E_InvalidPart) [.ref E_ImageError, .ref E_Missing] = some true)
    (exm_InvalidAlignment : PySem.W.exmAny K (.ref E_InvalidAlignment) [.ref E_ImageError, .ref E_Missing] = some true)
    (exm_InvalidScope : PySem.W.exmAny K (.ref E_InvalidScope) [.ref E_ImageError, .ref E_Missing] = some true)
    (exm_InvalidRow : PySem.W.exmAny K (.ref E_InvalidRow) [.ref E_ImageError, .ref E_Missing] = some true)
    (exm_NotClosing : PySem.W.exmAny K (.ref E_NotClosing) [.ref E_ImageError, .ref E_Missing] = some true)
    (exm_TooMany : PySem.W.exmAny K (.ref E_TooMany) [.ref E_ImageError, .ref E_Missing] = some true)
    : LawAtS l w K C8.CX0 17 63 "_law_script" mg fa h := by
  have e := hfa.symm.trans (PySem.W.mg_of X G a_law)
  cases e
  have F_wall := fun_mk (st := s_wall) l_wall c_wall k_wall
  have F_is_name := fun_mk (st := s_is_name) l_is_name c_is_name k_is_name
  have F_is_register := fun_mk (st := s_is_register) l_is_register c_is_register k_is_register
  have F_is_number := fun_mk (st := s_is_number) l_is_number c_is_number k_is_number
  have F_is_code_row := fun_mk (st := s_is_code_row) l_is_code_row c_is_code_row k_is_code_row
  have F_is_data_row := fun_mk (st := s_is_data_row) l_is_data_row c_is_data_row k_is_data_row
  have F_is_row_of := fun_mk (st := s_is_row_of) l_is_row_of c_is_row_of k_is_row_of
  have F_is_closing := fun_mk (st := s_is_closing) l_is_closing c_is_closing k_is_closing
  have F_word_of := fun_mk (st := s_word_of) l_word_of c_word_of k_word_of
  have F_fit := fun_mk (st := s_fit) l_fit c_fit k_fit
  have F_fits := fun_mk (st := s_fits) l_fits c_fits k_fits
  have F_Piece___init__ : FunD K "__init__" "Piece.__init__" (defArgs s_Piece___init__) (defBody s_Piece___init__) (defScope s_Piece___init__) [] [("alignment", .int 1), ("scope", .str "local"), ("keep", .bl false)] f_Piece___init__ _ := ⟨⟨_, _, _, _, _, _, _, _, _, _, rfl, l_Piece___init__, c_Piece___init__, .inl ⟨rfl, rfl⟩, .inr ⟨kd_Piece___init__, rfl, (kwmem1 ⟨_, kw_Piece___init___alignment, ⟨_, rfl⟩⟩ (kwmem1 ⟨_, kw_Piece___init___scope, ⟨_, rfl⟩⟩ (kwmem1 ⟨_, kw_Piece___init___keep, rfl⟩ kwmem0)))⟩⟩, k_Piece___init__⟩
  have F_Piece_rows := fun_mk (st := s_Piece_rows) l_Piece_rows c_Piece_rows k_Piece_rows
  have F_Piece_is_shared := fun_mk (st := s_Piece_is_shared) l_Piece_is_shared c_Piece_is_shared k_Piece_is_shared
  have F_Piece_is_strong := fun_mk (st := s_Piece_is_strong) l_Piece_is_strong c_Piece_is_strong k_Piece_is_strong
  have F_Piece___eq__ := fun_mk (st := s_Piece___eq__) l_Piece___eq__ c_Piece___eq__ k_Piece___eq__
  have F_Piece___len__ := fun_mk (st := s_Piece___len__) l_Piece___len__ c_Piece___len__ k_Piece___len__
  have F_Piece___bool__ := fun_mk (st := s_Piece___bool__) l_Piece___bool__ c_Piece___bool__ k_Piece___bool__
  have F_Piece___repr__ := fun_mk (st := s_Piece___repr__) l_Piece___repr__ c_Piece___repr__ k_Piece___repr__
  have F_is_part := fun_mk (st := s_is_part) l_is_part c_is_part k_is_part
  have F_is_alignment := fun_mk (st := s_is_alignment) l_is_alignment c_is_alignment k_is_alignment
  have F_is_scope_of := fun_mk (st := s_is_scope_of) l_is_scope_of c_is_scope_of k_is_scope_of
  have F_ends_closing := fun_mk (st := s_ends_closing) l_ends_closing c_ends_closing k_ends_closing
  have F_check_rows := fun_mk (st := s_check_rows) l_check_rows c_check_rows k_check_rows
  have F_law_bag := fun_mk (st := s_law_bag) l_law_bag c_law_bag k_law_bag
  have F_law_draw := fun_mk (st := s_law_draw) l_law_draw c_law_draw k_law_draw
  have F_law_of := fun_mk (st := s_law_of) l_law_of c_law_of k_law_of
  have F_law_same := fun_mk (st := s_law_same) l_law_same c_law_same k_law_same
  have F_law_field := fun_mk (st := s_law_field) l_law_field c_law_field k_law_field
  have F_law_try := fun_mk (st := s_law_try) l_law_try c_law_try k_law_try
  have F_law_why := fun_mk (st := s_law_why) l_law_why c_law_why k_law_why
  have F_law_whys := fun_mk (st := s_law_whys) l_law_whys c_law_whys k_law_whys
  have F_law_odd := fun_mk (st := s_law_odd) l_law_odd c_law_odd k_law_odd
  have F_law_titles := fun_mk (st := s_law_titles) l_law_titles c_law_titles k_law_titles
  have F_law_number := fun_mk (st := s_law_number) l_law_number c_law_number k_law_number
  have F_law_r := fun_mk (st := s_law_r) l_law_r c_law_r k_law_r
  have F_law_code_row := fun_mk (st := s_law_code_row) l_law_code_row c_law_code_row k_law_code_row
  have F_law_last_row := fun_mk (st := s_law_last_row) l_law_last_row c_law_last_row k_law_last_row
  have F_law_data_row := fun_mk (st := s_law_data_row) l_law_data_row c_law_data_row k_law_data_row
  have F_law_piece_model := fun_mk (st := s_law_piece_model) l_law_piece_model c_law_piece_model k_law_piece_model
  have F_law_is_title := fun_mk (st := s_law_is_title) l_law_is_title c_law_is_title k_law_is_title
  have F_law_within := fun_mk (st := s_law_within) l_law_within c_law_within k_law_within
  have F_law_code_so := fun_mk (st := s_law_code_so) l_law_code_so c_law_code_so k_law_code_so
  have F_law_data_so := fun_mk (st := s_law_data_so) l_law_data_so c_law_data_so k_law_data_so
  have F_law_wrong_rows := fun_mk (st := s_law_wrong_rows) l_law_wrong_rows c_law_wrong_rows k_law_wrong_rows
  have F_law_due := fun_mk (st := s_law_due) l_law_due c_law_due k_law_due
  have F_law_written_so := fun_mk (st := s_law_written_so) l_law_written_so c_law_written_so k_law_written_so
  have F_law := fun_mk (st := s_law) l_law c_law k_law
  let Z : Fs := ⟨f_wall, PySem.W.fnOf "_wall" "_wall" (defArgs s_wall) (defBody s_wall) (defScope s_wall) .none kV_wall dc_wall pm_wall an_wall cd_wall ct_wall, f_is_name, PySem.W.fnOf "is_name" "is_name" (defArgs s_is_name) (defBody s_is_name) (defScope s_is_name) .none kV_is_name dc_is_name pm_is_name an_is_name cd_is_name ct_is_name, f_is_register, PySem.W.fnOf "is_register" "is_register" (defArgs s_is_register) (defBody s_is_register) (defScope s_is_register) .none kV_is_register dc_is_register pm_is_register an_is_register cd_is_register ct_is_register, f_is_number, PySem.W.fnOf "is_number" "is_number" (defArgs s_is_number) (defBody s_is_number) (defScope s_is_number) .none kV_is_number dc_is_number pm_is_number an_is_number cd_is_number ct_is_number, f_is_code_row, PySem.W.fnOf "is_code_row" "is_code_row" (defArgs s_is_code_row) (defBody s_is_code_row) (defScope s_is_code_row) .none kV_is_code_row dc_is_code_row pm_is_code_row an_is_code_row cd_is_code_row ct_is_code_row, f_is_data_row, PySem.W.fnOf "is_data_row" "is_data_row" (defArgs s_is_data_row) (defBody s_is_data_row) (defScope s_is_data_row) .none kV_is_data_row dc_is_data_row pm_is_data_row an_is_data_row cd_is_data_row ct_is_data_row, f_is_row_of, PySem.W.fnOf "is_row_of" "is_row_of" (defArgs s_is_row_of) (defBody s_is_row_of) (defScope s_is_row_of) .none kV_is_row_of dc_is_row_of pm_is_row_of an_is_row_of cd_is_row_of ct_is_row_of, f_is_closing, PySem.W.fnOf "is_closing" "is_closing" (defArgs s_is_closing) (defBody s_is_closing) (defScope s_is_closing) .none kV_is_closing dc_is_closing pm_is_closing an_is_closing cd_is_closing ct_is_closing, f_word_of, PySem.W.fnOf "_word_of" "_word_of" (defArgs s_word_of) (defBody s_word_of) (defScope s_word_of) .none kV_word_of dc_word_of pm_word_of an_word_of cd_word_of ct_word_of, f_fit, PySem.W.fnOf "_fit" "_fit" (defArgs s_fit) (defBody s_fit) (defScope s_fit) .none kV_fit dc_fit pm_fit an_fit cd_fit ct_fit, f_fits, PySem.W.fnOf "_fits" "_fits" (defArgs s_fits) (defBody s_fits) (defScope s_fits) .none kV_fits dc_fits pm_fits an_fits cd_fits ct_fits, f_Piece___init__, PySem.W.fnOf "__init__" "Piece.__init__" (defArgs s_Piece___init__) (defBody s_Piece___init__) (defScope s_Piece___init__) .none (.ref kd_Piece___init__) dc_Piece___init__ pm_Piece___init__ an_Piece___init__ cd_Piece___init__ ct_Piece___init__, f_Piece_rows, PySem.W.fnOf "rows" "Piece.rows" (defArgs s_Piece_rows) (defBody s_Piece_rows) (defScope s_Piece_rows) .none kV_Piece_rows dc_Piece_rows pm_Piece_rows an_Piece_rows cd_Piece_rows ct_Piece_rows, f_Piece_is_shared, PySem.W.fnOf "is_shared" "Piece.is_shared" (defArgs s_Piece_is_shared) (defBody s_Piece_is_shared) (defScope s_Piece_is_shared) .none kV_Piece_is_shared dc_Piece_is_shared pm_Piece_is_shared an_Piece_is_shared cd_Piece_is_shared ct_Piece_is_shared, f_Piece_is_strong, PySem.W.fnOf "is_strong" "Piece.is_strong" (defArgs s_Piece_is_strong) (defBody s_Piece_is_strong) (defScope s_Piece_is_strong) .none kV_Piece_is_strong dc_Piece_is_strong pm_Piece_is_strong an_Piece_is_strong cd_Piece_is_strong ct_Piece_is_strong, f_Piece___eq__, PySem.W.fnOf "__eq__" "Piece.__eq__" (defArgs s_Piece___eq__) (defBody s_Piece___eq__) (defScope s_Piece___eq__) .none kV_Piece___eq__ dc_Piece___eq__ pm_Piece___eq__ an_Piece___eq__ cd_Piece___eq__ ct_Piece___eq__, f_Piece___len__, PySem.W.fnOf "__len__" "Piece.__len__" (defArgs s_Piece___len__) (defBody s_Piece___len__) (defScope s_Piece___len__) .none kV_Piece___len__ dc_Piece___len__ pm_Piece___len__ an_Piece___len__ cd_Piece___len__ ct_Piece___len__, f_Piece___bool__, PySem.W.fnOf "__bool__" "Piece.__bool__" (defArgs s_Piece___bool__) (defBody s_Piece___bool__) (defScope s_Piece___bool__) .none kV_Piece___bool__ dc_Piece___bool__ pm_Piece___bool__ an_Piece___bool__ cd_Piece___bool__ ct_Piece___bool__, f_Piece___repr__, PySem.W.fnOf "__repr__" "Piece.__repr__" (defArgs s_Piece___repr__) (defBody s_Piece___repr__) (defScope s_Piece___repr__) .none kV_Piece___repr__ dc_Piece___repr__ pm_Piece___repr__ an_Piece___repr__ cd_Piece___repr__ ct_Piece___repr__, f_is_part, PySem.W.fnOf "is_part" "is_part" (defArgs s_is_part) (defBody s_is_part) (defScope s_is_part) .none kV_is_part dc_is_part pm_is_part an_is_part cd_is_part ct_is_part, f_is_alignment, PySem.W.fnOf "is_alignment" "is_alignment" (defArgs s_is_alignment) (defBody s_is_alignment) (defScope s_is_alignment) .none kV_is_alignment dc_is_alignment pm_is_alignment an_is_alignment cd_is_alignment ct_is_alignment, f_is_scope_of, PySem.W.fnOf "is_scope_of" "is_scope_of" (defArgs s_is_scope_of) (defBody s_is_scope_of) (defScope s_is_scope_of) .none kV_is_scope_of dc_is_scope_of pm_is_scope_of an_is_scope_of cd_is_scope_of ct_is_scope_of, f_ends_closing, PySem.W.fnOf "ends_closing" "ends_closing" (defArgs s_ends_closing) (defBody s_ends_closing) (defScope s_ends_closing) .none kV_ends_closing dc_ends_closing pm_ends_closing an_ends_closing cd_ends_closing ct_ends_closing, f_check_rows, PySem.W.fnOf "_check_rows" "_check_rows" (defArgs s_check_rows) (defBody s_check_rows) (defScope s_check_rows) .none kV_check_rows dc_check_rows pm_check_rows an_check_rows cd_check_rows ct_check_rows, f_law_bag, PySem.W.fnOf "_law_bag" "_law_bag" (defArgs s_law_bag) (defBody s_law_bag) (defScope s_law_bag) .none kV_law_bag dc_law_bag pm_law_bag an_law_bag cd_law_bag ct_law_bag, f_law_draw, PySem.W.fnOf "_law_draw" "_law_draw" (defArgs s_law_draw) (defBody s_law_draw) (defScope s_law_draw) .none kV_law_draw dc_law_draw pm_law_draw an_law_draw cd_law_draw ct_law_draw, f_law_of, PySem.W.fnOf "_law_of" "_law_of" (defArgs s_law_of) (defBody s_law_of) (defScope s_law_of) .none kV_law_of dc_law_of pm_law_of an_law_of cd_law_of ct_law_of, f_law_same, PySem.W.fnOf "_law_same" "_law_same" (defArgs s_law_same) (defBody s_law_same) (defScope s_law_same) .none kV_law_same dc_law_same pm_law_same an_law_same cd_law_same ct_law_same, f_law_field, PySem.W.fnOf "_law_field" "_law_field" (defArgs s_law_field) (defBody s_law_field) (defScope s_law_field) .none kV_law_field dc_law_field pm_law_field an_law_field cd_law_field ct_law_field, f_law_try, PySem.W.fnOf "_law_try" "_law_try" (defArgs s_law_try) (defBody s_law_try) (defScope s_law_try) .none kV_law_try dc_law_try pm_law_try an_law_try cd_law_try ct_law_try, f_law_why, PySem.W.fnOf "_law_why" "_law_why" (defArgs s_law_why) (defBody s_law_why) (defScope s_law_why) .none kV_law_why dc_law_why pm_law_why an_law_why cd_law_why ct_law_why, f_law_whys, PySem.W.fnOf "_law_whys" "_law_whys" (defArgs s_law_whys) (defBody s_law_whys) (defScope s_law_whys) .none kV_law_whys dc_law_whys pm_law_whys an_law_whys cd_law_whys ct_law_whys, f_law_odd, PySem.W.fnOf "_law_odd" "_law_odd" (defArgs s_law_odd) (defBody s_law_odd) (defScope s_law_odd) .none kV_law_odd dc_law_odd pm_law_odd an_law_odd cd_law_odd ct_law_odd, f_law_titles, PySem.W.fnOf "_law_titles" "_law_titles" (defArgs s_law_titles) (defBody s_law_titles) (defScope s_law_titles) .none kV_law_titles dc_law_titles pm_law_titles an_law_titles cd_law_titles ct_law_titles, f_law_number, PySem.W.fnOf "_law_number" "_law_number" (defArgs s_law_number) (defBody s_law_number) (defScope s_law_number) .none kV_law_number dc_law_number pm_law_number an_law_number cd_law_number ct_law_number, f_law_r, PySem.W.fnOf "_law_r" "_law_r" (defArgs s_law_r) (defBody s_law_r) (defScope s_law_r) .none kV_law_r dc_law_r pm_law_r an_law_r cd_law_r ct_law_r, f_law_code_row, PySem.W.fnOf "_law_code_row" "_law_code_row" (defArgs s_law_code_row) (defBody s_law_code_row) (defScope s_law_code_row) .none kV_law_code_row dc_law_code_row pm_law_code_row an_law_code_row cd_law_code_row ct_law_code_row, f_law_last_row, PySem.W.fnOf "_law_last_row" "_law_last_row" (defArgs s_law_last_row) (defBody s_law_last_row) (defScope s_law_last_row) .none kV_law_last_row dc_law_last_row pm_law_last_row an_law_last_row cd_law_last_row ct_law_last_row, f_law_data_row, PySem.W.fnOf "_law_data_row" "_law_data_row" (defArgs s_law_data_row) (defBody s_law_data_row) (defScope s_law_data_row) .none kV_law_data_row dc_law_data_row pm_law_data_row an_law_data_row cd_law_data_row ct_law_data_row, f_law_piece_model, PySem.W.fnOf "_law_piece_model" "_law_piece_model" (defArgs s_law_piece_model) (defBody s_law_piece_model) (defScope s_law_piece_model) .none kV_law_piece_model dc_law_piece_model pm_law_piece_model an_law_piece_model cd_law_piece_model ct_law_piece_model, f_law_is_title, PySem.W.fnOf "_law_is_title" "_law_is_title" (defArgs s_law_is_title) (defBody s_law_is_title) (defScope s_law_is_title) .none kV_law_is_title dc_law_is_title pm_law_is_title an_law_is_title cd_law_is_title ct_law_is_title, f_law_within, PySem.W.fnOf "_law_within" "_law_within" (defArgs s_law_within) (defBody s_law_within) (defScope s_law_within) .none kV_law_within dc_law_within pm_law_within an_law_within cd_law_within ct_law_within, f_law_code_so, PySem.W.fnOf "_law_code_so" "_law_code_so" (defArgs s_law_code_so) (defBody s_law_code_so) (defScope s_law_code_so) .none kV_law_code_so dc_law_code_so pm_law_code_so an_law_code_so cd_law_code_so ct_law_code_so, f_law_data_so, PySem.W.fnOf "_law_data_so" "_law_data_so" (defArgs s_law_data_so) (defBody s_law_data_so) (defScope s_law_data_so) .none kV_law_data_so dc_law_data_so pm_law_data_so an_law_data_so cd_law_data_so ct_law_data_so, f_law_wrong_rows, PySem.W.fnOf "_law_wrong_rows" "_law_wrong_rows" (defArgs s_law_wrong_rows) (defBody s_law_wrong_rows) (defScope s_law_wrong_rows) .none kV_law_wrong_rows dc_law_wrong_rows pm_law_wrong_rows an_law_wrong_rows cd_law_wrong_rows ct_law_wrong_rows, f_law_due, PySem.W.fnOf "_law_due" "_law_due" (defArgs s_law_due) (defBody s_law_due) (defScope s_law_due) .none kV_law_due dc_law_due pm_law_due an_law_due cd_law_due ct_law_due, f_law_written_so, PySem.W.fnOf "_law_written_so" "_law_written_so" (defArgs s_law_written_so) (defBody s_law_written_so) (defScope s_law_written_so) .none kV_law_written_so dc_law_written_so pm_law_written_so an_law_written_so (.ref cc_law_written_so) ct_law_written_so, fa, PySem.W.fnOf "law" "law" (defArgs s_law) (defBody s_law) (defScope s_law) .none kV_law dc_law pm_law an_law (.ref cc_law) ct_law, qe_CODE_ROWS, qz_CODE_ROWS, qe_DATA_ROWS, qz_DATA_ROWS, qe_BOUNDS, qz_BOUNDS, f_C_Piece, q_REGISTERS, q_CODE_ROWS, q_DATA_ROWS, q_BOUNDS, q_CLOSING, q_PARTS, q_ALIGNMENTS, q_SCOPES⟩
  have T : Txt K w mg Z := ⟨F_wall,
    PySem.W.mg_of X G a_wall,
    F_wall.binds (ps := ["k"]) fun _ _ _ _ _ _ us hl => match us, hl with | [_], _ => rfl,
    F_is_name,
    PySem.W.mg_of X G a_is_name,
    F_is_name.binds (ps := ["value"]) fun _ _ _ _ _ _ us hl => match us, hl with | [_], _ => rfl,
    F_is_register,
    PySem.W.mg_of X G a_is_register,
    F_is_register.binds (ps := ["value"]) fun _ _ _ _ _ _ us hl => match us, hl with | [_], _ => rfl,
    F_is_number,
    PySem.W.mg_of X G a_is_number,
    F_is_number.binds (ps := ["value", "least", "most"]) fun _ _ _ _ _ _ us hl => match us, hl with | [_, _, _], _ => rfl,
    F_is_code_row,
    PySem.W.mg_of X G a_is_code_row,
    F_is_code_row.binds (ps := ["value"]) fun _ _ _ _ _ _ us hl => match us, hl with | [_], _ => rfl,
    F_is_data_row,
    PySem.W.mg_of X G a_is_data_row,
    F_is_data_row.binds (ps := ["value"]) fun _ _ _ _ _ _ us hl => match us, hl with | [_], _ => rfl,
    F_is_row_of,
    PySem.W.mg_of X G a_is_row_of,
    F_is_row_of.binds (ps := ["part", "value"]) fun _ _ _ _ _ _ us hl => match us, hl with | [_, _], _ => rfl,
    F_is_closing,
    PySem.W.mg_of X G a_is_closing,
    F_is_closing.binds (ps := ["row"]) fun _ _ _ _ _ _ us hl => match us, hl with | [_], _ => rfl,
    F_word_of,
    PySem.W.mg_of X G a_word_of,
    F_word_of.binds (ps := ["value"]) fun _ _ _ _ _ _ us hl => match us, hl with | [_], _ => rfl,
    F_fit,
    PySem.W.mg_of X G a_fit,
    F_fit.binds (ps := ["items", "kinds"]) fun _ _ _ _ _ _ us hl => match us, hl with | [_, _], _ => rfl,
    F_fits,
    PySem.W.mg_of X G a_fits,
    F_fits.binds (ps := ["item", "kind"]) fun _ _ _ _ _ _ us hl => match us, hl with | [_, _], _ => rfl,
    F_Piece___init__,
    kbn_d_Piece___init___4 F_Piece___init__,
    kbn_d_Piece___init___4_scope F_Piece___init__,
    kbn_d_Piece___init___4_alignment_scope F_Piece___init__,
    kbn_d_Piece___init___4_alignment F_Piece___init__,
    kbn_d_Piece___init___4_alignment_scope_keep F_Piece___init__,
    kbn_d_Piece___init___1_scope_rows_name_alignment_part F_Piece___init__,
    ⟨a_Piece_rows, i_Piece_rows, k_Piece_rows⟩,
    F_Piece_rows,
    F_Piece_rows.binds (ps := ["self"]) fun _ _ _ _ _ _ us hl => match us, hl with | [_], _ => rfl,
    ⟨a_Piece_is_shared, i_Piece_is_shared, k_Piece_is_shared⟩,
    F_Piece_is_shared,
    F_Piece_is_shared.binds (ps := ["self"]) fun _ _ _ _ _ _ us hl => match us, hl with | [_], _ => rfl,
    ⟨a_Piece_is_strong, i_Piece_is_strong, k_Piece_is_strong⟩,
    F_Piece_is_strong,
    F_Piece_is_strong.binds (ps := ["self"]) fun _ _ _ _ _ _ us hl => match us, hl with | [_], _ => rfl,
    ⟨a_Piece___eq__, i_Piece___eq__⟩,
    F_Piece___eq__,
    F_Piece___eq__.binds (ps := ["self", "other"]) fun _ _ _ _ _ _ us hl => match us, hl with | [_, _], _ => rfl,
    ⟨a_Piece___len__, i_Piece___len__⟩,
    F_Piece___len__,
    F_Piece___len__.binds (ps := ["self"]) fun _ _ _ _ _ _ us hl => match us, hl with | [_], _ => rfl,
    ⟨a_Piece___bool__, i_Piece___bool__⟩,
    F_Piece___bool__,
    F_Piece___bool__.binds (ps := ["self"]) fun _ _ _ _ _ _ us hl => match us, hl with | [_], _ => rfl,
    ⟨a_Piece___repr__, i_Piece___repr__⟩,
    F_Piece___repr__,
    F_Piece___repr__.binds (ps := ["self"]) fun _ _ _ _ _ _ us hl => match us, hl with | [_], _ => rfl,
    F_is_part,
    PySem.W.mg_of X G a_is_part,
    F_is_part.binds (ps := ["value"]) fun _ _ _ _ _ _ us hl => match us, hl with | [_], _ => rfl,
    F_is_alignment,
    PySem.W.mg_of X G a_is_alignment,
    F_is_alignment.binds (ps := ["value"]) fun _ _ _ _ _ _ us hl => match us, hl with | [_], _ => rfl,
    F_is_scope_of,
    PySem.W.mg_of X G a_is_scope_of,
    F_is_scope_of.binds (ps := ["part", "value"]) fun _ _ _ _ _ _ us hl => match us, hl with | [_, _], _ => rfl,
    F_ends_closing,
    PySem.W.mg_of X G a_ends_closing,
    F_ends_closing.binds (ps := ["part", "rows"]) fun _ _ _ _ _ _ us hl => match us, hl with | [_, _], _ => rfl,
    F_check_rows,
    PySem.W.mg_of X G a_check_rows,
    F_check_rows.binds (ps := ["part", "rows"]) fun _ _ _ _ _ _ us hl => match us, hl with | [_, _], _ => rfl,
    F_law_bag,
    PySem.W.mg_of X G a_law_bag,
    F_law_bag.binds (ps := ["_law_script"]) fun _ _ _ _ _ _ us hl => match us, hl with | [_], _ => rfl,
    F_law_draw,
    PySem.W.mg_of X G a_law_draw,
    F_law_draw.binds (ps := ["_law_bag_here", "_law_sides"]) fun _ _ _ _ _ _ us hl => match us, hl with | [_, _], _ => rfl,
    F_law_of,
    PySem.W.mg_of X G a_law_of,
    F_law_of.binds (ps := ["_law_bag_here", "_law_things"]) fun _ _ _ _ _ _ us hl => match us, hl with | [_, _], _ => rfl,
    F_law_same,
    PySem.W.mg_of X G a_law_same,
    F_law_same.binds (ps := ["_law_found", "_law_due_here"]) fun _ _ _ _ _ _ us hl => match us, hl with | [_, _], _ => rfl,
    F_law_field,
    PySem.W.mg_of X G a_law_field,
    F_law_field.binds (ps := ["_law_e"]) fun _ _ _ _ _ _ us hl => match us, hl with | [_], _ => rfl,
    F_law_try,
    PySem.W.mg_of X G a_law_try,
    F_law_try.binds (ps := ["_law_ask"]) fun _ _ _ _ _ _ us hl => match us, hl with | [_], _ => rfl,
    F_law_why,
    PySem.W.mg_of X G a_law_why,
    F_law_why.binds (ps := ["_law_ask"]) fun _ _ _ _ _ _ us hl => match us, hl with | [_], _ => rfl,
    F_law_whys,
    PySem.W.mg_of X G a_law_whys,
    F_law_whys.binds (ps := ["_law_asks"]) fun _ _ _ _ _ _ us hl => match us, hl with | [_], _ => rfl,
    F_law_odd,
    PySem.W.mg_of X G a_law_odd,
    F_law_odd.binds (ps := ["_law_bag_here", "_law_more"]) fun _ _ _ _ _ _ us hl => match us, hl with | [_, _], _ => rfl,
    F_law_titles,
    PySem.W.mg_of X G a_law_titles,
    F_law_titles.binds (ps := ["_law_bag_here", "_law_many"]) fun _ _ _ _ _ _ us hl => match us, hl with | [_, _], _ => rfl,
    F_law_number,
    PySem.W.mg_of X G a_law_number,
    F_law_number.binds (ps := ["_law_bag_here"]) fun _ _ _ _ _ _ us hl => match us, hl with | [_], _ => rfl,
    F_law_r,
    PySem.W.mg_of X G a_law_r,
    F_law_r.binds (ps := ["_law_bag_here"]) fun _ _ _ _ _ _ us hl => match us, hl with | [_], _ => rfl,
    F_law_code_row,
    PySem.W.mg_of X G a_law_code_row,
    F_law_code_row.binds (ps := ["_law_bag_here", "_law_titles_here"]) fun _ _ _ _ _ _ us hl => match us, hl with | [_, _], _ => rfl,
    F_law_last_row,
    PySem.W.mg_of X G a_law_last_row,
    F_law_last_row.binds (ps := ["_law_bag_here", "_law_titles_here"]) fun _ _ _ _ _ _ us hl => match us, hl with | [_, _], _ => rfl,
    F_law_data_row,
    PySem.W.mg_of X G a_law_data_row,
    F_law_data_row.binds (ps := ["_law_bag_here", "_law_titles_here"]) fun _ _ _ _ _ _ us hl => match us, hl with | [_, _], _ => rfl,
    F_law_piece_model,
    PySem.W.mg_of X G a_law_piece_model,
    F_law_piece_model.binds (ps := ["_law_bag_here", "_law_title", "_law_titles_here", "_law_most"]) fun _ _ _ _ _ _ us hl => match us, hl with | [_, _, _, _], _ => rfl,
    F_law_is_title,
    PySem.W.mg_of X G a_law_is_title,
    F_law_is_title.binds (ps := ["_law_thing"]) fun _ _ _ _ _ _ us hl => match us, hl with | [_], _ => rfl,
    F_law_within,
    PySem.W.mg_of X G a_law_within,
    F_law_within.binds (ps := ["_law_thing", "_law_low_y", "_law_high_y"]) fun _ _ _ _ _ _ us hl => match us, hl with | [_, _, _], _ => rfl,
    F_law_code_so,
    PySem.W.mg_of X G a_law_code_so,
    F_law_code_so.binds (ps := ["_law_thing"]) fun _ _ _ _ _ _ us hl => match us, hl with | [_], _ => rfl,
    F_law_data_so,
    PySem.W.mg_of X G a_law_data_so,
    F_law_data_so.binds (ps := ["_law_thing"]) fun _ _ _ _ _ _ us hl => match us, hl with | [_], _ => rfl,
    F_law_wrong_rows,
    PySem.W.mg_of X G a_law_wrong_rows,
    F_law_wrong_rows.binds (ps := ["_law_bag_here", "_law_model"]) fun _ _ _ _ _ _ us hl => match us, hl with | [_, _], _ => rfl,
    F_law_due,
    PySem.W.mg_of X G a_law_due,
    F_law_due.binds (ps := ["_law_given"]) fun _ _ _ _ _ _ us hl => match us, hl with | [_], _ => rfl,
    F_law_written_so,
    PySem.W.mg_of X G a_law_written_so,
    F_law_written_so.binds (ps := []) fun _ _ _ _ _ _ us hl => match us, hl with | [], _ => rfl,
    F_law,
    PySem.W.mg_of X G a_law,
    F_law.binds (ps := ["_law_script"]) fun _ _ _ _ _ _ us hl => match us, hl with | [_], _ => rfl,
    ⟨pg_Piece, hd_Piece, po_Piece, sa_Piece⟩,
    PySem.W.mg_of X G aC_Piece,
    ⟨mkk_Piece, a_Piece___init__, i_Piece___init__, kc_Piece⟩,
    nf_Piece_name,
    nf_Piece_part,
    nf_Piece_alignment,
    nf_Piece_scope,
    nf_Piece_keep,
    nf_Piece__rows,
    ⟨⟨⟨pg_Piece, hd_Piece, po_Piece, sa_Piece⟩, ha_Piece, hn_Piece, htk_Piece, hm_Piece, me_Piece⟩, isk_six it_Piece_NoneType it_Piece_bool it_Piece_int it_Piece_str it_Piece_list it_Piece_tuple, ne_Piece⟩,
    PySem.W.mg_none_of X G n_abs,
    PySem.W.mg_none_of X G n_all,
    PySem.W.mg_none_of X G n_bool,
    PySem.W.mg_none_of X G n_enumerate,
    PySem.W.mg_none_of X G n_int,
    PySem.W.mg_none_of X G n_isinstance,
    PySem.W.mg_none_of X G n_len,
    PySem.W.mg_none_of X G n_list,
    PySem.W.mg_none_of X G n_range,
    PySem.W.mg_none_of X G n_str,
    PySem.W.mg_none_of X G n_tuple,
    PySem.W.mg_none_of X G n_zip,
    ⟨_, PySem.W.mg_of X G g_MOST_LETTERS⟩,
    PySem.W.mg_of X G g_REGISTERS,
    fun _ => .inr ⟨_, _, _, v_REGISTERS, rfl, rfl, (Nat.le_trans (Nat.le_of_eq (Array.length_toList.symm.trans w_REGISTERS.length.symm)) (by show 3 ≤ sizeLine; decide)), w_REGISTERS⟩,
    ⟨_, v_REGISTERS, rfl, rfl⟩,
    PySem.W.mg_of X G g_CODE_ROWS,
    PySem.W.mg_of X G g_DATA_ROWS,
    PySem.W.mg_of X G g_BOUNDS,
    PySem.W.mg_of X G g_CLOSING,
    fun _ => .inr ⟨_, _, _, v_CLOSING, rfl, rfl, (Nat.le_trans (Nat.le_of_eq (Array.length_toList.symm.trans w_CLOSING.length.symm)) (by show 3 ≤ sizeLine; decide)), w_CLOSING⟩,
    ⟨_, v_CLOSING, rfl, rfl⟩,
    PySem.W.mg_of X G g_PARTS,
    fun _ => .inr ⟨_, _, _, v_PARTS, rfl, rfl, (Nat.le_trans (Nat.le_of_eq (Array.length_toList.symm.trans w_PARTS.length.symm)) (by show 2 ≤ sizeLine; decide)), w_PARTS⟩,
    ⟨_, v_PARTS, rfl, rfl⟩,
    PySem.W.mg_of X G g_ALIGNMENTS,
    fun _ => .inr ⟨_, _, _, v_ALIGNMENTS, rfl, rfl, (Nat.le_trans (Nat.le_of_eq (Array.length_toList.symm.trans w_ALIGNMENTS.length.symm)) (by show 5 ≤ sizeLine; decide)), w_ALIGNMENTS⟩,
    ⟨_, v_ALIGNMENTS, rfl, rfl⟩,
    PySem.W.mg_of X G g_SCOPES,
    fun _ => .inr ⟨_, _, _, v_SCOPES, rfl, rfl, (Nat.le_trans (Nat.le_of_eq (Array.length_toList.symm.trans w_SCOPES.length.symm)) (by show 4 ≤ sizeLine; decide)), w_SCOPES⟩,
    ⟨_, v_SCOPES, rfl, rfl⟩,
    ⟨_, PySem.W.mg_of X G g_MOST_ROWS⟩,
    ⟨dl_CODE_ROWS, dk_CODE_ROWS, dw_CODE_ROWS⟩,
    fun z => ⟨_, nsIn_of dl_CODE_ROWS pe_CODE_ROWS z, find_rel (show Paired (fun (p : Str × List V) (q : Str × Value) => p.1 = q.1 ∧ RelTu K p.2 q.2) tb_CODE_ROWS [("put", Value.ref t_CODE_ROWS_put), ("name", Value.ref t_CODE_ROWS_name), ("add", Value.ref t_CODE_ROWS_add), ("take", Value.ref t_CODE_ROWS_take), ("load", Value.ref t_CODE_ROWS_load), ("store", Value.ref t_CODE_ROWS_store), ("jump", Value.ref t_CODE_ROWS_jump), ("ifzero", Value.ref t_CODE_ROWS_ifzero), ("call", Value.ref t_CODE_ROWS_call), ("callby", Value.ref t_CODE_ROWS_callby), ("back", Value.ref t_CODE_ROWS_back), ("out", Value.ref t_CODE_ROWS_out), ("halt", Value.ref t_CODE_ROWS_halt), ("room", Value.ref t_CODE_ROWS_room)] from (.cons ⟨rfl, ⟨t_CODE_ROWS_put, rfl, fun _ => .inr ⟨_, _, _, y_CODE_ROWS_put, rfl, rfl, (Nat.le_trans (Nat.le_of_eq (Array.length_toList.symm.trans u_CODE_ROWS_put.length.symm)) (by show 2 ≤ sizeLine; decide)), u_CODE_ROWS_put⟩⟩⟩ (.cons ⟨rfl, ⟨t_CODE_ROWS_name, rfl, fun _ => .inr ⟨_, _, _, y_CODE_ROWS_name, rfl, rfl, (Nat.le_trans (Nat.le_of_eq (Array.length_toList.symm.trans u_CODE_ROWS_name.length.symm)) (by show 2 ≤ sizeLine; decide)), u_CODE_ROWS_name⟩⟩⟩ (.cons ⟨rfl, ⟨t_CODE_ROWS_add, rfl, fun _ => .inr ⟨_, _, _, y_CODE_ROWS_add, rfl, rfl, (Nat.le_trans (Nat.le_of_eq (Array.length_toList.symm.trans u_CODE_ROWS_add.length.symm)) (by show 2 ≤ sizeLine; decide)), u_CODE_ROWS_add⟩⟩⟩ (.cons ⟨rfl, ⟨t_CODE_ROWS_take, rfl, fun _ => .inr ⟨_, _, _, y_CODE_ROWS_take, rfl, rfl, (Nat.le_trans (Nat.le_of_eq (Array.length_toList.symm.trans u_CODE_ROWS_take.length.symm)) (by show 2 ≤ sizeLine; decide)), u_CODE_ROWS_take⟩⟩⟩ (.cons ⟨rfl, ⟨t_CODE_ROWS_load, rfl, fun _ => .inr ⟨_, _, _, y_CODE_ROWS_load, rfl, rfl, (Nat.le_trans (Nat.le_of_eq (Array.length_toList.symm.trans u_CODE_ROWS_load.length.symm)) (by show 3 ≤ sizeLine; decide)), u_CODE_ROWS_load⟩⟩⟩ (.cons ⟨rfl, ⟨t_CODE_ROWS_store, rfl, fun _ => .inr ⟨_, _, _, y_CODE_ROWS_store, rfl, rfl, (Nat.le_trans (Nat.le_of_eq (Array.length_toList.symm.trans u_CODE_ROWS_store.length.symm)) (by show 3 ≤ sizeLine; decide)), u_CODE_ROWS_store⟩⟩⟩ (.cons ⟨rfl, ⟨t_CODE_ROWS_jump, rfl, fun _ => .inr ⟨_, _, _, y_CODE_ROWS_jump, rfl, rfl, (Nat.le_trans (Nat.le_of_eq (Array.length_toList.symm.trans u_CODE_ROWS_jump.length.symm)) (by show 1 ≤ sizeLine; decide)), u_CODE_ROWS_jump⟩⟩⟩ (.cons ⟨rfl, ⟨t_CODE_ROWS_ifzero, rfl, fun _ => .inr ⟨_, _, _, y_CODE_ROWS_ifzero, rfl, rfl, (Nat.le_trans (Nat.le_of_eq (Array.length_toList.symm.trans u_CODE_ROWS_ifzero.length.symm)) (by show 2 ≤ sizeLine; decide)), u_CODE_ROWS_ifzero⟩⟩⟩ (.cons ⟨rfl, ⟨t_CODE_ROWS_call, rfl, fun _ => .inr ⟨_, _, _, y_CODE_ROWS_call, rfl, rfl, (Nat.le_trans (Nat.le_of_eq (Array.length_toList.symm.trans u_CODE_ROWS_call.length.symm)) (by show 1 ≤ sizeLine; decide)), u_CODE_ROWS_call⟩⟩⟩ (.cons ⟨rfl, ⟨t_CODE_ROWS_callby, rfl, fun _ => .inr ⟨_, _, _, y_CODE_ROWS_callby, rfl, rfl, (Nat.le_trans (Nat.le_of_eq (Array.length_toList.symm.trans u_CODE_ROWS_callby.length.symm)) (by show 1 ≤ sizeLine; decide)), u_CODE_ROWS_callby⟩⟩⟩ (.cons ⟨rfl, ⟨t_CODE_ROWS_back, rfl, fun _ => .inr ⟨_, _, _, y_CODE_ROWS_back, rfl, rfl, (Nat.le_trans (Nat.le_of_eq (Array.length_toList.symm.trans u_CODE_ROWS_back.length.symm)) (by show 0 ≤ sizeLine; decide)), u_CODE_ROWS_back⟩⟩⟩ (.cons ⟨rfl, ⟨t_CODE_ROWS_out, rfl, fun _ => .inr ⟨_, _, _, y_CODE_ROWS_out, rfl, rfl, (Nat.le_trans (Nat.le_of_eq (Array.length_toList.symm.trans u_CODE_ROWS_out.length.symm)) (by show 1 ≤ sizeLine; decide)), u_CODE_ROWS_out⟩⟩⟩ (.cons ⟨rfl, ⟨t_CODE_ROWS_halt, rfl, fun _ => .inr ⟨_, _, _, y_CODE_ROWS_halt, rfl, rfl, (Nat.le_trans (Nat.le_of_eq (Array.length_toList.symm.trans u_CODE_ROWS_halt.length.symm)) (by show 0 ≤ sizeLine; decide)), u_CODE_ROWS_halt⟩⟩⟩ (.cons ⟨rfl, ⟨t_CODE_ROWS_room, rfl, fun _ => .inr ⟨_, _, _, y_CODE_ROWS_room, rfl, rfl, (Nat.le_trans (Nat.le_of_eq (Array.length_toList.symm.trans u_CODE_ROWS_room.length.symm)) (by show 1 ≤ sizeLine; decide)), u_CODE_ROWS_room⟩⟩⟩ .nil))))))))))))))) z⟩,
    ⟨dl_DATA_ROWS, dk_DATA_ROWS, dw_DATA_ROWS⟩,
    fun z => ⟨_, nsIn_of dl_DATA_ROWS pe_DATA_ROWS z, find_rel (show Paired (fun (p : Str × List V) (q : Str × Value) => p.1 = q.1 ∧ RelTu K p.2 q.2) tb_DATA_ROWS [("word", Value.ref t_DATA_ROWS_word), ("address", Value.ref t_DATA_ROWS_address), ("room", Value.ref t_DATA_ROWS_room)] from (.cons ⟨rfl, ⟨t_DATA_ROWS_word, rfl, fun _ => .inr ⟨_, _, _, y_DATA_ROWS_word, rfl, rfl, (Nat.le_trans (Nat.le_of_eq (Array.length_toList.symm.trans u_DATA_ROWS_word.length.symm)) (by show 1 ≤ sizeLine; decide)), u_DATA_ROWS_word⟩⟩⟩ (.cons ⟨rfl, ⟨t_DATA_ROWS_address, rfl, fun _ => .inr ⟨_, _, _, y_DATA_ROWS_address, rfl, rfl, (Nat.le_trans (Nat.le_of_eq (Array.length_toList.symm.trans u_DATA_ROWS_address.length.symm)) (by show 1 ≤ sizeLine; decide)), u_DATA_ROWS_address⟩⟩⟩ (.cons ⟨rfl, ⟨t_DATA_ROWS_room, rfl, fun _ => .inr ⟨_, _, _, y_DATA_ROWS_room, rfl, rfl, (Nat.le_trans (Nat.le_of_eq (Array.length_toList.symm.trans u_DATA_ROWS_room.length.symm)) (by show 1 ≤ sizeLine; decide)), u_DATA_ROWS_room⟩⟩⟩ .nil)))) z⟩,
    ⟨dl_BOUNDS, dk_BOUNDS, dw_BOUNDS⟩,
    fun z => ⟨_, nsIn_of dl_BOUNDS pe_BOUNDS z, find_rel (show Paired (fun (p : Str × List V) (q : Str × Value) => p.1 = q.1 ∧ RelTu K p.2 q.2) tb_BOUNDS [("n", Value.ref t_BOUNDS_n), ("d", Value.ref t_BOUNDS_d), ("k", Value.ref t_BOUNDS_k)] from (.cons ⟨rfl, ⟨t_BOUNDS_n, rfl, fun _ => .inr ⟨_, _, _, y_BOUNDS_n, rfl, rfl, (Nat.le_trans (Nat.le_of_eq (Array.length_toList.symm.trans u_BOUNDS_n.length.symm)) (by show 2 ≤ sizeLine; decide)), u_BOUNDS_n⟩⟩⟩ (.cons ⟨rfl, ⟨t_BOUNDS_d, rfl, fun _ => .inr ⟨_, _, _, y_BOUNDS_d, rfl, rfl, (Nat.le_trans (Nat.le_of_eq (Array.length_toList.symm.trans u_BOUNDS_d.length.symm)) (by show 2 ≤ sizeLine; decide)), u_BOUNDS_d⟩⟩⟩ (.cons ⟨rfl, ⟨t_BOUNDS_k, rfl, fun _ => .inr ⟨_, _, _, y_BOUNDS_k, rfl, rfl, (Nat.le_trans (Nat.le_of_eq (Array.length_toList.symm.trans u_BOUNDS_k.length.symm)) (by show 2 ≤ sizeLine; decide)), u_BOUNDS_k⟩⟩⟩ .nil)))) z⟩⟩
  have VE_InvalidName : ErrV K mg "InvalidName" "InvalidName.__init__" s_E_InvalidName E_InvalidName fi_InvalidName _ := ⟨PySem.W.mg_of X G eA_InvalidName, ⟨⟨_, _, _, _, _, _, _, _, _, _, _, _, _, _, _, eC_InvalidName, erf_InvalidName⟩, esa_InvalidName, eex_InvalidName, ety_InvalidName, ek_InvalidName⟩, ei_InvalidName, etI_InvalidName, _, _, _, _, _, _, _, _, _, _, _, _, el_InvalidName, rfl, ⟨eco_InvalidName, ⟨_, _, _, _, _, elc_InvalidName, ef_InvalidName⟩, ⟨_, _, _, ece_InvalidName⟩, ⟨_, ecl_InvalidName⟩, emr_InvalidName, PySem.W.mg_none_of X G nsS, ⟨_, rfl, rfl⟩, esI_InvalidName, eB_InvalidName, opq, emd_InvalidName⟩, PySem.F.excBase_ValueError⟩
  have VE_InvalidPart : ErrV K mg "InvalidPart" "InvalidPart.__init__" s_E_InvalidPart E_InvalidPart fi_InvalidPart _ := ⟨PySem.W.mg_of X G eA_InvalidPart, ⟨⟨_, _, _, _, _, _, _, _, _, _, _, _, _, _, _, eC_InvalidPart, erf_InvalidPart⟩, esa_InvalidPart, eex_InvalidPart, ety_InvalidPart, ek_InvalidPart⟩, ei_InvalidPart, etI_InvalidPart, _, _, _, _, _, _, _, _, _, _, _, _, el_InvalidPart, rfl, ⟨eco_InvalidPart, ⟨_, _, _, _, _, elc_InvalidPart, ef_InvalidPart⟩, ⟨_, _, _, ece_InvalidPart⟩, ⟨_, ecl_InvalidPart⟩, emr_InvalidPart, PySem.W.mg_none_of X G nsS, ⟨_, rfl, rfl⟩, esI_InvalidPart, eB_InvalidPart, opq, emd_InvalidPart⟩, PySem.F.excBase_ValueError⟩
  have VE_InvalidAlignment : ErrV K mg "InvalidAlignment" "InvalidAlignment.__init__" s_E_InvalidAlignment E_InvalidAlignment fi_InvalidAlignment _ := ⟨PySem.W.mg_of X G eA_InvalidAlignment, ⟨⟨_, _, _, _, _, _, _, _, _, _, _, _, _, _, _, eC_InvalidAlignment, erf_InvalidAlignment⟩, esa_InvalidAlignment, eex_InvalidAlignment, ety_InvalidAlignment, ek_InvalidAlignment⟩, ei_InvalidAlignment, etI_InvalidAlignment, _, _, _, _, _, _, _, _, _, _, _, _, el_InvalidAlignment, rfl, ⟨eco_InvalidAlignment, ⟨_, _, _, _, _, elc_InvalidAlignment, ef_InvalidAlignment⟩, ⟨_, _, _, ece_InvalidAlignment⟩, ⟨_, ecl_InvalidAlignment⟩, emr_InvalidAlignment, PySem.W.mg_none_of X G nsS, ⟨_, rfl, rfl⟩, esI_InvalidAlignment, eB_InvalidAlignment, opq, emd_InvalidAlignment⟩, PySem.F.excBase_ValueError⟩
  have VE_InvalidScope : ErrV K mg "InvalidScope" "InvalidScope.__init__" s_E_InvalidScope E_InvalidScope fi_InvalidScope _ := ⟨PySem.W.mg_of X G eA_InvalidScope, ⟨⟨_, _, _, _, _, _, _, _, _, _, _, _, _, _, _, eC_InvalidScope, erf_InvalidScope⟩, esa_InvalidScope, eex_InvalidScope, ety_InvalidScope, ek_InvalidScope⟩, ei_InvalidScope, etI_InvalidScope, _, _, _, _, _, _, _, _, _, _, _, _, el_InvalidScope, rfl, ⟨eco_InvalidScope, ⟨_, _, _, _, _, elc_InvalidScope, ef_InvalidScope⟩, ⟨_, _, _, ece_InvalidScope⟩, ⟨_, ecl_InvalidScope⟩, emr_InvalidScope, PySem.W.mg_none_of X G nsS, ⟨_, rfl, rfl⟩, esI_InvalidScope, eB_InvalidScope, opq, emd_InvalidScope⟩, PySem.F.excBase_ValueError⟩
  have VE_InvalidRow : ErrV K mg "InvalidRow" "InvalidRow.__init__" s_E_InvalidRow E_InvalidRow fi_InvalidRow _ := ⟨PySem.W.mg_of X G eA_InvalidRow, ⟨⟨_, _, _, _, _, _, _, _, _, _, _, _, _, _, _, eC_InvalidRow, erf_InvalidRow⟩, esa_InvalidRow, eex_InvalidRow, ety_InvalidRow, ek_InvalidRow⟩, ei_InvalidRow, etI_InvalidRow, _, _, _, _, _, _, _, _, _, _, _, _, el_InvalidRow, rfl, ⟨eco_InvalidRow, ⟨_, _, _, _, _, elc_InvalidRow, ef_InvalidRow⟩, ⟨_, _, _, ece_InvalidRow⟩, ⟨_, ecl_InvalidRow⟩, emr_InvalidRow, PySem.W.mg_none_of X G nsS, ⟨_, rfl, rfl⟩, esI_InvalidRow, eB_InvalidRow, opq, emd_InvalidRow⟩, PySem.F.excBase_ValueError⟩
  have VE_NotClosing : ErrV K mg "NotClosing" "NotClosing.__init__" s_E_NotClosing E_NotClosing fi_NotClosing _ := ⟨PySem.W.mg_of X G eA_NotClosing, ⟨⟨_, _, _, _, _, _, _, _, _, _, _, _, _, _, _, eC_NotClosing, erf_NotClosing⟩, esa_NotClosing, eex_NotClosing, ety_NotClosing, ek_NotClosing⟩, ei_NotClosing, etI_NotClosing, _, _, _, _, _, _, _, _, _, _, _, _, el_NotClosing, rfl, ⟨eco_NotClosing, ⟨_, _, _, _, _, elc_NotClosing, ef_NotClosing⟩, ⟨_, _, _, ece_NotClosing⟩, ⟨_, ecl_NotClosing⟩, emr_NotClosing, PySem.W.mg_none_of X G nsS, ⟨_, rfl, rfl⟩, esI_NotClosing, eB_NotClosing, opq, emd_NotClosing⟩, PySem.F.excBase_ValueError⟩
  have VE_TooMany : ErrV K mg "TooMany" "TooMany.__init__" s_E_TooMany E_TooMany fi_TooMany _ := ⟨PySem.W.mg_of X G eA_TooMany, ⟨⟨_, _, _, _, _, _, _, _, _, _, _, _, _, _, _, eC_TooMany, erf_TooMany⟩, esa_TooMany, eex_TooMany, ety_TooMany, ek_TooMany⟩, ei_TooMany, etI_TooMany, _, _, _, _, _, _, _, _, _, _, _, _, el_TooMany, rfl, ⟨eco_TooMany, ⟨_, _, _, _, _, elc_TooMany, ef_TooMany⟩, ⟨_, _, _, ece_TooMany⟩, ⟨_, ecl_TooMany⟩, emr_TooMany, PySem.W.mg_none_of X G nsS, ⟨_, rfl, rfl⟩, esI_TooMany, eB_TooMany, opq, emd_TooMany⟩, PySem.F.excBase_ValueError⟩
  have bI_InvalidName : L2.Binds K (PySem.W.ksFn "__init__" "InvalidName.__init__" (defArgs s_E_InvalidName) (defBody s_E_InvalidName) (defScope s_E_InvalidName) .none kV_InvalidName dc_InvalidName pm_InvalidName an_InvalidName (.ref cda_InvalidName) ct_InvalidName cl_InvalidName) ["self", "value"] [] := fun s us _ hl => match us, hl with | [_, _], _ => .of_eq rfl
  have bI_InvalidPart : L2.Binds K (PySem.W.ksFn "__init__" "InvalidPart.__init__" (defArgs s_E_InvalidPart) (defBody s_E_InvalidPart) (defScope s_E_InvalidPart) .none kV_InvalidPart dc_InvalidPart pm_InvalidPart an_InvalidPart (.ref cda_InvalidPart) ct_InvalidPart cl_InvalidPart) ["self", "value"] [] := fun s us _ hl => match us, hl with | [_, _], _ => .of_eq rfl
  have bI_InvalidAlignment : L2.Binds K (PySem.W.ksFn "__init__" "InvalidAlignment.__init__" (defArgs s_E_InvalidAlignment) (defBody s_E_InvalidAlignment) (defScope s_E_InvalidAlignment) .none kV_InvalidAlignment dc_InvalidAlignment pm_InvalidAlignment an_InvalidAlignment (.ref cda_InvalidAlignment) ct_InvalidAlignment cl_InvalidAlignment) ["self", "value"] [] := fun s us _ hl => match us, hl with | [_, _], _ => .of_eq rfl
  have bI_InvalidScope : L2.Binds K (PySem.W.ksFn "__init__" "InvalidScope.__init__" (defArgs s_E_InvalidScope) (defBody s_E_InvalidScope) (defScope s_E_InvalidScope) .none kV_InvalidScope dc_InvalidScope pm_InvalidScope an_InvalidScope (.ref cda_InvalidScope) ct_InvalidScope cl_InvalidScope) ["self", "value"] [] := fun s us _ hl => match us, hl with | [_, _], _ => .of_eq rfl
  have bI_InvalidRow : L2.Binds K (PySem.W.ksFn "__init__" "InvalidRow.__init__" (defArgs s_E_InvalidRow) (defBody s_E_InvalidRow) (defScope s_E_InvalidRow) .none kV_InvalidRow dc_InvalidRow pm_InvalidRow an_InvalidRow (.ref cda_InvalidRow) ct_InvalidRow cl_InvalidRow) ["self", "at"] [] := fun s us _ hl => match us, hl with | [_, _], _ => .of_eq rfl
  have bI_NotClosing : L2.Binds K (PySem.W.ksFn "__init__" "NotClosing.__init__" (defArgs s_E_NotClosing) (defBody s_E_NotClosing) (defScope s_E_NotClosing) .none kV_NotClosing dc_NotClosing pm_NotClosing an_NotClosing (.ref cda_NotClosing) ct_NotClosing cl_NotClosing) ["self"] [] := fun s us _ hl => match us, hl with | [_], _ => .of_eq rfl
  have bI_TooMany : L2.Binds K (PySem.W.ksFn "__init__" "TooMany.__init__" (defArgs s_E_TooMany) (defBody s_E_TooMany) (defScope s_E_TooMany) .none kV_TooMany dc_TooMany pm_TooMany an_TooMany (.ref cda_TooMany) ct_TooMany cl_TooMany) ["self", "most"] [] := fun s us _ hl => match us, hl with | [_, _], _ => .of_eq rfl
  have EC_InvalidName : EC K mg "InvalidName" "InvalidName.__init__" s_E_InvalidName ⟨E_InvalidName, "InvalidName", ["value"]⟩ fi_InvalidName _ := ⟨VE_InvalidName, bI_InvalidName, xfB_ok exf_InvalidName, en_InvalidName_code, (memc en_InvalidName_value mem0), _, _, PySem.W.mg_of X G eA_ImageError, PySem.W.mg_of X G eA_Missing, exm_InvalidName⟩
  have EC_InvalidPart : EC K mg "InvalidPart" "InvalidPart.__init__" s_E_InvalidPart ⟨E_InvalidPart, "InvalidPart", ["value"]⟩ fi_InvalidPart _ := ⟨VE_InvalidPart, bI_InvalidPart, xfB_ok exf_InvalidPart, en_InvalidPart_code, (memc en_InvalidPart_value mem0), _, _, PySem.W.mg_of X G eA_ImageError, PySem.W.mg_of X G eA_Missing, exm_InvalidPart⟩
  have EC_InvalidAlignment : EC K mg "InvalidAlignment" "InvalidAlignment.__init__" s_E_InvalidAlignment ⟨E_InvalidAlignment, "InvalidAlignment", ["value"]⟩ fi_InvalidAlignment _ := ⟨VE_InvalidAlignment, bI_InvalidAlignment, xfB_ok exf_InvalidAlignment, en_InvalidAlignment_code, (memc en_InvalidAlignment_value mem0), _, _, PySem.W.mg_of X G eA_ImageError, PySem.W.mg_of X G eA_Missing, exm_InvalidAlignment⟩
  have EC_InvalidScope : EC K mg "InvalidScope" "InvalidScope.__init__" s_E_InvalidScope ⟨E_InvalidScope, "InvalidScope", ["value"]⟩ fi_InvalidScope _ := ⟨VE_InvalidScope, bI_InvalidScope, xfB_ok exf_InvalidScope, en_InvalidScope_code, (memc en_InvalidScope_value mem0), _, _, PySem.W.mg_of X G eA_ImageError, PySem.W.mg_of X G eA_Missing, exm_InvalidScope⟩
  have EC_InvalidRow : EC K mg "InvalidRow" "InvalidRow.__init__" s_E_InvalidRow ⟨E_InvalidRow, "InvalidRow", ["at"]⟩ fi_InvalidRow _ := ⟨VE_InvalidRow, bI_InvalidRow, xfB_ok exf_InvalidRow, en_InvalidRow_code, (memc en_InvalidRow_at mem0), _, _, PySem.W.mg_of X G eA_ImageError, PySem.W.mg_of X G eA_Missing, exm_InvalidRow⟩
  have EC_NotClosing : EC K mg "NotClosing" "NotClosing.__init__" s_E_NotClosing ⟨E_NotClosing, "NotClosing", []⟩ fi_NotClosing _ := ⟨VE_NotClosing, bI_NotClosing, xfB_ok exf_NotClosing, en_NotClosing_code, mem0, _, _, PySem.W.mg_of X G eA_ImageError, PySem.W.mg_of X G eA_Missing, exm_NotClosing⟩
  have EC_TooMany : EC K mg "TooMany" "TooMany.__init__" s_E_TooMany ⟨E_TooMany, "TooMany", ["most"]⟩ fi_TooMany _ := ⟨VE_TooMany, bI_TooMany, xfB_ok exf_TooMany, en_TooMany_code, (memc en_TooMany_most mem0), _, _, PySem.W.mg_of X G eA_ImageError, PySem.W.mg_of X G eA_Missing, exm_TooMany⟩
  let TT : List (Addr × Str) := [(pp_law_written_so, QL "_law_written_so"), (pp_law, QL "law")]
  have hTT : ∀ H : Hp, (∀ p ∈ [(cc_law_written_so, pp_law_written_so), (cc_law, pp_law)], H p.2 = some (.tbl #[])) → Tabs TT H := fun H hH p hp => by
    rcases List.mem_cons.mp hp with rfl | hp
    · exact TabS.nil (hH (cc_law_written_so, pp_law_written_so) (by simp))
    rcases List.mem_cons.mp hp with rfl | hp
    · exact TabS.nil (hH (cc_law, pp_law) (by simp))
    cases hp
  have hm_law_written_so : (pp_law_written_so, QL "_law_written_so") ∈ TT := .head _
  have hu_law_written_so : ∀ p ∈ TT, p.1 = pp_law_written_so → p.2 = QL "_law_written_so" := fun p hp e => by
    rcases List.mem_cons.mp hp with rfl | hp
    · rfl
    rcases List.mem_cons.mp hp with rfl | hp
    · exact absurd e.symm dd_0_1
    cases hp
  have hm_law : (pp_law, QL "law") ∈ TT := .tail _ (.head _)
  have hu_law : ∀ p ∈ TT, p.1 = pp_law → p.2 = QL "law" := fun p hp e => by
    rcases List.mem_cons.mp hp with rfl | hp
    · exact absurd e dd_0_1
    rcases List.mem_cons.mp hp with rfl | hp
    · rfl
    cases hp
  refine ⟨Z.d_law, [(cc_law_written_so, pp_law_written_so), (cc_law, pp_law)], sp_law K TT, (fun p hp => by
    rcases List.mem_cons.mp hp with rfl | hp
    · exact tt_law_written_so
    rcases List.mem_cons.mp hp with rfl | hp
    · exact tt_law
    cases hp), (fun p hp => by
    rcases List.mem_cons.mp hp with rfl | hp
    · exact np_law_written_so
    rcases List.mem_cons.mp hp with rfl | hp
    · exact np_law
    cases hp), (fun p hp => by
    rcases List.mem_cons.mp hp with rfl | hp
    · exact PySem.W.codeHd_of_K X hd_law_written_so
    rcases List.mem_cons.mp hp with rfl | hp
    · exact PySem.W.codeHd_of_K X hd_law
    cases hp), fun s v => .of_eq rfl, fun H a ns hl _ hH hS => ⟨a, ns, rfl, hS, hl, hTT H hH, fun _ => rfl⟩, fun base KB _ hTB => ?_⟩
  exact ok_law (k := ⟨E_InvalidName, E_InvalidPart, E_InvalidAlignment, E_InvalidScope, E_InvalidRow, E_TooMany, E_NotClosing⟩) T ⟨PS, ⟨_, _, EC_InvalidName⟩, ⟨_, _, EC_InvalidPart⟩, ⟨_, _, EC_InvalidAlignment⟩, ⟨_, _, EC_InvalidScope⟩, ⟨_, _, EC_InvalidRow⟩, ⟨_, _, EC_TooMany⟩, ⟨_, _, EC_NotClosing⟩⟩ rfl (hTB (cc_law_written_so, pp_law_written_so) (by simp)) hm_law_written_so hu_law_written_so rfl (hTB (cc_law, pp_law) (by simp)) hm_law hu_law
end Kk
open PySem PySem.W PyProof.Rows
set_option maxRecDepth 100000 in
set_option maxHeartbeats 0 in
theorem PySem.Challenge.cw_leastimage_k05_pieces_refused_holds : PySem.Challenge.rw_leastimage_k05_pieces_refused.Holds := by
  w_on; o_law; k_head; (case hw => w_witness2)
  k_fill
  refine LamX.walk_ofTs (l := PySem.Challenge.rw_leastimage_k05_pieces_refused) (n := 63) (k := 17) (x := "_law_script") (CX := fun _ => C8.CX0) rfl (by decide) rfl ⟨rfl, by decide, by decide⟩ (fun w h Y => PySem.W.km_in_of Y) ?F (fun _ _ _ _ _ h => h)
  case F =>
    intro w mg fa h Y KX G hmg
    have tabs := PySem.W.km_tabs_of Y
    refine' Kk.all_mkE ⟨by first | rfl | decide +kernel, by first | rfl | decide +kernel⟩ KX G hmg ?a_wall ?l_wall ?c_wall ?k_wall ?a_is_name ?l_is_name ?c_is_name ?k_is_name ?a_is_register ?l_is_register ?c_is_register ?k_is_register ?a_is_number ?l_is_number ?c_is_number ?k_is_number ?a_is_code_row ?l_is_code_row ?c_is_code_row ?k_is_code_row ?a_is_data_row ?l_is_data_row ?c_is_data_row ?k_is_data_row ?a_is_row_of ?l_is_row_of ?c_is_row_of ?k_is_row_of ?a_is_closing ?l_is_closing ?c_is_closing ?k_is_closing ?a_word_of ?l_word_of ?c_word_of ?k_word_of ?a_fit ?l_fit ?c_fit ?k_fit ?a_fits ?l_fits ?c_fits ?k_fits ?a_Piece___init__ ?i_Piece___init__ ?l_Piece___init__ ?c_Piece___init__ ?k_Piece___init__ ?kw_Piece___init___alignment ?kw_Piece___init___scope ?kw_Piece___init___keep ?a_Piece_rows ?i_Piece_rows ?l_Piece_rows ?c_Piece_rows ?k_Piece_rows ?a_Piece_is_shared ?i_Piece_is_shared ?l_Piece_is_shared ?c_Piece_is_shared ?k_Piece_is_shared ?a_Piece_is_strong ?i_Piece_is_strong ?l_Piece_is_strong ?c_Piece_is_strong ?k_Piece_is_strong ?a_Piece___eq__ ?i_Piece___eq__ ?l_Piece___eq__ ?c_Piece___eq__ ?k_Piece___eq__ ?a_Piece___len__ ?i_Piece___len__ ?l_Piece___len__ ?c_Piece___len__ ?k_Piece___len__ ?a_Piece___bool__ ?i_Piece___bool__ ?l_Piece___bool__ ?c_Piece___bool__ ?k_Piece___bool__ ?a_Piece___repr__ ?i_Piece___repr__ ?l_Piece___repr__ ?c_Piece___repr__ ?k_Piece___repr__ ?a_is_part ?l_is_part ?c_is_part ?k_is_part ?a_is_alignment ?l_is_alignment ?c_is_alignment ?k_is_alignment ?a_is_scope_of ?l_is_scope_of ?c_is_scope_of ?k_is_scope_of ?a_ends_closing ?l_ends_closing ?c_ends_closing ?k_ends_closing ?a_check_rows ?l_check_rows ?c_check_rows ?k_check_rows ?a_law_bag ?l_law_bag ?c_law_bag ?k_law_bag ?a_law_draw ?l_law_draw ?c_law_draw ?k_law_draw ?a_law_of ?l_law_of ?c_law_of ?k_law_of ?a_law_same ?l_law_same ?c_law_same ?k_law_same ?a_law_field ?l_law_field ?c_law_field ?k_law_field ?a_law_try ?l_law_try ?c_law_try ?k_law_try ?a_law_why ?l_law_why ?c_law_why ?k_law_why ?a_law_whys ?l_law_whys ?c_law_whys ?k_law_whys ?a_law_odd ?l_law_odd ?c_law_odd ?k_law_odd ?a_law_titles ?l_law_titles ?c_law_titles ?k_law_titles ?a_law_number ?l_law_number ?c_law_number ?k_law_number ?a_law_r ?l_law_r ?c_law_r ?k_law_r ?a_law_code_row ?l_law_code_row ?c_law_code_row ?k_law_code_row ?a_law_last_row ?l_law_last_row ?c_law_last_row ?k_law_last_row ?a_law_data_row ?l_law_data_row ?c_law_data_row ?k_law_data_row ?a_law_piece_model ?l_law_piece_model ?c_law_piece_model ?k_law_piece_model ?a_law_is_title ?l_law_is_title ?c_law_is_title ?k_law_is_title ?a_law_within ?l_law_within ?c_law_within ?k_law_within ?a_law_code_so ?l_law_code_so ?c_law_code_so ?k_law_code_so ?a_law_data_so ?l_law_data_so ?c_law_data_so ?k_law_data_so ?a_law_wrong_rows ?l_law_wrong_rows ?c_law_wrong_rows ?k_law_wrong_rows ?a_law_due ?l_law_due ?c_law_due ?k_law_due ?a_law_written_so ?l_law_written_so ?c_law_written_so ?k_law_written_so ?a_law ?l_law ?c_law ?k_law ?aC_Piece ?pg_Piece ?hd_Piece ?po_Piece ?sa_Piece ?mkk_Piece ?kc_Piece ?nf_Piece_name ?nf_Piece_part ?nf_Piece_alignment ?nf_Piece_scope ?nf_Piece_keep ?nf_Piece__rows ?ha_Piece ?hn_Piece ?htk_Piece ?hm_Piece ?me_Piece ?ne_Piece ?it_Piece_NoneType ?it_Piece_bool ?it_Piece_int ?it_Piece_str ?it_Piece_list ?it_Piece_tuple ?n_abs ?n_all ?n_bool ?n_enumerate ?n_int ?n_isinstance ?n_len ?n_list ?n_range ?n_str ?n_tuple ?n_zip ?g_MOST_LETTERS ?g_REGISTERS ?v_REGISTERS ?w_REGISTERS ?g_CODE_ROWS ?g_DATA_ROWS ?g_BOUNDS ?g_CLOSING ?v_CLOSING ?w_CLOSING ?g_PARTS ?v_PARTS ?w_PARTS ?g_ALIGNMENTS ?v_ALIGNMENTS ?w_ALIGNMENTS ?g_SCOPES ?v_SCOPES ?w_SCOPES ?g_MOST_ROWS ?dl_CODE_ROWS ?dk_CODE_ROWS ?dw_CODE_ROWS ?pe_CODE_ROWS ?y_CODE_ROWS_put ?u_CODE_ROWS_put ?y_CODE_ROWS_name ?u_CODE_ROWS_name ?y_CODE_ROWS_add ?u_CODE_ROWS_add ?y_CODE_ROWS_take ?u_CODE_ROWS_take ?y_CODE_ROWS_load ?u_CODE_ROWS_load ?y_CODE_ROWS_store ?u_CODE_ROWS_store ?y_CODE_ROWS_jump ?u_CODE_ROWS_jump ?y_CODE_ROWS_ifzero ?u_CODE_ROWS_ifzero ?y_CODE_ROWS_call ?u_CODE_ROWS_call ?y_CODE_ROWS_callby ?u_CODE_ROWS_callby ?y_CODE_ROWS_back ?u_CODE_ROWS_back ?y_CODE_ROWS_out ?u_CODE_ROWS_out ?y_CODE_ROWS_halt ?u_CODE_ROWS_halt ?y_CODE_ROWS_room ?u_CODE_ROWS_room ?dl_DATA_ROWS ?dk_DATA_ROWS ?dw_DATA_ROWS ?pe_DATA_ROWS ?y_DATA_ROWS_word ?u_DATA_ROWS_word ?y_DATA_ROWS_address ?u_DATA_ROWS_address ?y_DATA_ROWS_room ?u_DATA_ROWS_room ?dl_BOUNDS ?dk_BOUNDS ?dw_BOUNDS ?pe_BOUNDS ?y_BOUNDS_n ?u_BOUNDS_n ?y_BOUNDS_d ?u_BOUNDS_d ?y_BOUNDS_k ?u_BOUNDS_k ?lc_law_written_so ?tp_law_written_so ?hd_law_written_so ?np_law_written_so ?tt_law_written_so ?lc_law ?tp_law ?hd_law ?np_law ?tt_law ?dd_0_1 ?eA_ImageError ?eA_Missing ?eA_InvalidName ?eA_InvalidPart ?eA_InvalidAlignment ?eA_InvalidScope ?eA_InvalidRow ?eA_NotClosing ?eA_TooMany ?nsS ?opq ?ei_InvalidName ?el_InvalidName ?eco_InvalidName ?elc_InvalidName ?ef_InvalidName ?ece_InvalidName ?ecl_InvalidName ?eC_InvalidName ?erf_InvalidName ?esa_InvalidName ?eex_InvalidName ?ety_InvalidName ?ek_InvalidName ?emr_InvalidName ?esI_InvalidName ?eB_InvalidName ?etI_InvalidName ?emd_InvalidName ?exf_InvalidName ?en_InvalidName_value ?en_InvalidName_code ?ei_InvalidPart ?el_InvalidPart ?eco_InvalidPart ?elc_InvalidPart ?ef_InvalidPart ?ece_InvalidPart ?ecl_InvalidPart ?eC_InvalidPart ?erf_InvalidPart ?esa_InvalidPart ?eex_InvalidPart ?ety_InvalidPart ?ek_InvalidPart ?emr_InvalidPart ?esI_InvalidPart ?eB_InvalidPart ?etI_InvalidPart ?emd_InvalidPart ?exf_InvalidPart ?en_InvalidPart_value ?en_InvalidPart_code ?ei_InvalidAlignment ?el_InvalidAlignment ?eco_InvalidAlignment ?elc_InvalidAlignment ?ef_InvalidAlignment ?ece_InvalidAlignment ?ecl_InvalidAlignment ?eC_InvalidAlignment ?erf_InvalidAlignment ?esa_InvalidAlignment ?eex_InvalidAlignment ?ety_InvalidAlignment ?ek_InvalidAlignment ?emr_InvalidAlignment ?esI_InvalidAlignment ?eB_InvalidAlignment ?etI_InvalidAlignment ?emd_InvalidAlignment ?exf_InvalidAlignment ?en_InvalidAlignment_value ?en_InvalidAlignment_code ?ei_InvalidScope ?el_InvalidScope ?eco_InvalidScope ?elc_InvalidScope ?ef_InvalidScope ?ece_InvalidScope ?ecl_InvalidScope ?eC_InvalidScope ?erf_InvalidScope ?esa_InvalidScope ?eex_InvalidScope ?ety_InvalidScope ?ek_InvalidScope ?emr_InvalidScope ?esI_InvalidScope ?eB_InvalidScope ?etI_InvalidScope ?emd_InvalidScope ?exf_InvalidScope ?en_InvalidScope_value ?en_InvalidScope_code ?ei_InvalidRow ?el_InvalidRow ?eco_InvalidRow ?elc_InvalidRow ?ef_InvalidRow ?ece_InvalidRow ?ecl_InvalidRow ?eC_InvalidRow ?erf_InvalidRow ?esa_InvalidRow ?eex_InvalidRow ?ety_InvalidRow ?ek_InvalidRow ?emr_InvalidRow ?esI_InvalidRow ?eB_InvalidRow ?etI_InvalidRow ?emd_InvalidRow ?exf_InvalidRow ?en_InvalidRow_at ?en_InvalidRow_code ?ei_NotClosing ?el_NotClosing ?eco_NotClosing ?elc_NotClosing ?ef_NotClosing ?ece_NotClosing ?ecl_NotClosing ?eC_NotClosing ?erf_NotClosing ?esa_NotClosing ?eex_NotClosing ?ety_NotClosing ?ek_NotClosing ?emr_NotClosing ?esI_NotClosing ?eB_NotClosing ?etI_NotClosing ?emd_NotClosing ?exf_NotClosing ?en_NotClosing_code ?ei_TooMany ?el_TooMany ?eco_TooMany ?elc_TooMany ?ef_TooMany ?ece_TooMany ?ecl_TooMany ?eC_TooMany ?erf_TooMany ?esa_TooMany ?eex_TooMany ?ety_TooMany ?ek_TooMany ?emr_TooMany ?esI_TooMany ?eB_TooMany ?etI_TooMany ?emd_TooMany ?exf_TooMany ?en_TooMany_most ?en_TooMany_code ?exm_InvalidName ?exm_InvalidPart ?exm_InvalidAlignment ?exm_InvalidScope ?exm_InvalidRow ?exm_NotClosing ?exm_TooMany
    (case aC_Piece => k_is)
    (case a_wall => k_is)
    (case l_wall => k_is)
    (case c_wall => k_is)
    (case k_wall => k_is)
    (case a_is_name => k_is)
    (case l_is_name => k_is)
    (case c_is_name => k_is)
    (case k_is_name => k_is)
    (case a_is_register => k_is)
    (case l_is_register => k_is)
    (case c_is_register => k_is)
    (case k_is_register => k_is)
    (case a_is_number => k_is)
    (case l_is_number => k_is)
    (case c_is_number => k_is)
    (case k_is_number => k_is)
    (case a_is_code_row => k_is)
    (case l_is_code_row => k_is)
    (case c_is_code_row => k_is)
    (case k_is_code_row => k_is)
    (case a_is_data_row => k_is)
    (case l_is_data_row => k_is)
    (case c_is_data_row => k_is)
    (case k_is_data_row => k_is)
    (case a_is_row_of => k_is)
    (case l_is_row_of => k_is)
    (case c_is_row_of => k_is)
    (case k_is_row_of => k_is)
    (case a_is_closing => k_is)
    (case l_is_closing => k_is)
    (case c_is_closing => k_is)
    (case k_is_closing => k_is)
    (case a_word_of => k_is)
    (case l_word_of => k_is)
    (case c_word_of => k_is)
    (case k_word_of => k_is)
    (case a_fit => k_is)
    (case l_fit => k_is)
    (case c_fit => k_is)
    (case k_fit => k_is)
    (case a_fits => k_is)
    (case l_fits => k_is)
    (case c_fits => k_is)
    (case k_fits => k_is)
    (case a_Piece___init__ => k_is)
    (case i_Piece___init__ => k_is)
    (case l_Piece___init__ => k_is)
    (case c_Piece___init__ => k_is)
    (case k_Piece___init__ => k_is)
    (case kw_Piece___init___alignment => k_is)
    (case kw_Piece___init___scope => k_is)
    (case kw_Piece___init___keep => k_is)
    (case a_Piece_rows => k_is)
    (case i_Piece_rows => k_is)
    (case l_Piece_rows => k_is)
    (case c_Piece_rows => k_is)
    (case k_Piece_rows => k_is)
    (case a_Piece_is_shared => k_is)
    (case i_Piece_is_shared => k_is)
    (case l_Piece_is_shared => k_is)
    (case c_Piece_is_shared => k_is)
    (case k_Piece_is_shared => k_is)
    (case a_Piece_is_strong => k_is)
    (case i_Piece_is_strong => k_is)
    (case l_Piece_is_strong => k_is)
    (case c_Piece_is_strong => k_is)
    (case k_Piece_is_strong => k_is)
    (case a_Piece___eq__ => k_is)
    (case i_Piece___eq__ => k_is)
    (case l_Piece___eq__ => k_is)
    (case c_Piece___eq__ => k_is)
    (case k_Piece___eq__ => k_is)
    (case a_Piece___len__ => k_is)
    (case i_Piece___len__ => k_is)
    (case l_Piece___len__ => k_is)
    (case c_Piece___len__ => k_is)
    (case k_Piece___len__ => k_is)
    (case a_Piece___bool__ => k_is)
    (case i_Piece___bool__ => k_is)
    (case l_Piece___bool__ => k_is)
    (case c_Piece___bool__ => k_is)
    (case k_Piece___bool__ => k_is)
    (case a_Piece___repr__ => k_is)
    (case i_Piece___repr__ => k_is)
    (case l_Piece___repr__ => k_is)
    (case c_Piece___repr__ => k_is)
    (case k_Piece___repr__ => k_is)
    (case a_is_part => k_is)
    (case l_is_part => k_is)
    (case c_is_part => k_is)
    (case k_is_part => k_is)
    (case a_is_alignment => k_is)
    (case l_is_alignment => k_is)
    (case c_is_alignment => k_is)
    (case k_is_alignment => k_is)
    (case a_is_scope_of => k_is)
    (case l_is_scope_of => k_is)
    (case c_is_scope_of => k_is)
    (case k_is_scope_of => k_is)
    (case a_ends_closing => k_is)
    (case l_ends_closing => k_is)
    (case c_ends_closing => k_is)
    (case k_ends_closing => k_is)
    (case a_check_rows => k_is)
    (case l_check_rows => k_is)
    (case c_check_rows => k_is)
    (case k_check_rows => k_is)
    (case a_law_bag => k_is)
    (case l_law_bag => k_is)
    (case c_law_bag => k_is)
    (case k_law_bag => k_is)
    (case a_law_draw => k_is)
    (case l_law_draw => k_is)
    (case c_law_draw => k_is)
    (case k_law_draw => k_is)
    (case a_law_of => k_is)
    (case l_law_of => k_is)
    (case c_law_of => k_is)
    (case k_law_of => k_is)
    (case a_law_same => k_is)
    (case l_law_same => k_is)
    (case c_law_same => k_is)
    (case k_law_same => k_is)
    (case a_law_field => k_is)
    (case l_law_field => k_is)
    (case c_law_field => k_is)
    (case k_law_field => k_is)
    (case a_law_try => k_is)
    (case l_law_try => k_is)
    (case c_law_try => k_is)
    (case k_law_try => k_is)
    (case a_law_why => k_is)
    (case l_law_why => k_is)
    (case c_law_why => k_is)
    (case k_law_why => k_is)
    (case a_law_whys => k_is)
    (case l_law_whys => k_is)
    (case c_law_whys => k_is)
    (case k_law_whys => k_is)
    (case a_law_odd => k_is)
    (case l_law_odd => k_is)
    (case c_law_odd => k_is)
    (case k_law_odd => k_is)
    (case a_law_titles => k_is)
    (case l_law_titles => k_is)
    (case c_law_titles => k_is)
    (case k_law_titles => k_is)
    (case a_law_number => k_is)
    (case l_law_number => k_is)
    (case c_law_number => k_is)
    (case k_law_number => k_is)
    (case a_law_r => k_is)
    (case l_law_r => k_is)
    (case c_law_r => k_is)
    (case k_law_r => k_is)
    (case a_law_code_row => k_is)
    (case l_law_code_row => k_is)
    (case c_law_code_row => k_is)
    (case k_law_code_row => k_is)
    (case a_law_last_row => k_is)
    (case l_law_last_row => k_is)
    (case c_law_last_row => k_is)
    (case k_law_last_row => k_is)
    (case a_law_data_row => k_is)
    (case l_law_data_row => k_is)
    (case c_law_data_row => k_is)
    (case k_law_data_row => k_is)
    (case a_law_piece_model => k_is)
    (case l_law_piece_model => k_is)
    (case c_law_piece_model => k_is)
    (case k_law_piece_model => k_is)
    (case a_law_is_title => k_is)
    (case l_law_is_title => k_is)
    (case c_law_is_title => k_is)
    (case k_law_is_title => k_is)
    (case a_law_within => k_is)
    (case l_law_within => k_is)
    (case c_law_within => k_is)
    (case k_law_within => k_is)
    (case a_law_code_so => k_is)
    (case l_law_code_so => k_is)
    (case c_law_code_so => k_is)
    (case k_law_code_so => k_is)
    (case a_law_data_so => k_is)
    (case l_law_data_so => k_is)
    (case c_law_data_so => k_is)
    (case k_law_data_so => k_is)
    (case a_law_wrong_rows => k_is)
    (case l_law_wrong_rows => k_is)
    (case c_law_wrong_rows => k_is)
    (case k_law_wrong_rows => k_is)
    (case a_law_due => k_is)
    (case l_law_due => k_is)
    (case c_law_due => k_is)
    (case k_law_due => k_is)
    (case a_law_written_so => k_is)
    (case l_law_written_so => k_is)
    (case c_law_written_so => k_is)
    (case k_law_written_so => k_is)
    (case a_law => k_is)
    (case l_law => k_is)
    (case c_law => k_is)
    (case k_law => k_is)
    (case pg_Piece => k_is)
    (case hd_Piece => k_is)
    (case po_Piece => k_is)
    (case sa_Piece => k_is)
    (case mkk_Piece => k_is)
    (case kc_Piece => k_is)
    (case nf_Piece_name => k_is)
    (case nf_Piece_part => k_is)
    (case nf_Piece_alignment => k_is)
    (case nf_Piece_scope => k_is)
    (case nf_Piece_keep => k_is)
    (case nf_Piece__rows => k_is)
    (case ha_Piece => k_is)
    (case hn_Piece => k_is)
    (case htk_Piece => k_is)
    (case hm_Piece => k_is)
    (case me_Piece => kit_is)
    (case ne_Piece => k_is)
    (case it_Piece_NoneType => kit_is)
    (case it_Piece_bool => kit_is)
    (case it_Piece_int => kit_is)
    (case it_Piece_str => kit_is)
    (case it_Piece_list => kit_is)
    (case it_Piece_tuple => kit_is)
    (case n_abs => k_is)
    (case n_all => k_is)
    (case n_bool => k_is)
    (case n_enumerate => k_is)
    (case n_int => k_is)
    (case n_isinstance => k_is)
    (case n_len => k_is)
    (case n_list => k_is)
    (case n_range => k_is)
    (case n_str => k_is)
    (case n_tuple => k_is)
    (case n_zip => k_is)
    (case g_MOST_LETTERS => k_is)
    (case g_REGISTERS => k_is)
    (case v_REGISTERS => k_is)
    (case w_REGISTERS => exact (.cons ⟨_, rfl⟩ (.cons ⟨_, rfl⟩ (.cons ⟨_, rfl⟩ .nil))))
    (case g_CODE_ROWS => k_is)
    (case g_DATA_ROWS => k_is)
    (case g_BOUNDS => k_is)
    (case g_CLOSING => k_is)
    (case v_CLOSING => k_is)
    (case w_CLOSING => exact (.cons ⟨_, rfl⟩ (.cons ⟨_, rfl⟩ (.cons ⟨_, rfl⟩ .nil))))
    (case g_PARTS => k_is)
    (case v_PARTS => k_is)
    (case w_PARTS => exact (.cons ⟨_, rfl⟩ (.cons ⟨_, rfl⟩ .nil)))
    (case g_ALIGNMENTS => k_is)
    (case v_ALIGNMENTS => k_is)
    (case w_ALIGNMENTS => exact (.cons ⟨_, rfl⟩ (.cons ⟨_, rfl⟩ (.cons ⟨_, rfl⟩ (.cons ⟨_, rfl⟩ (.cons ⟨_, rfl⟩ .nil))))))
    (case g_SCOPES => k_is)
    (case v_SCOPES => k_is)
    (case w_SCOPES => exact (.cons ⟨_, rfl⟩ (.cons ⟨_, rfl⟩ (.cons ⟨_, rfl⟩ (.cons ⟨_, rfl⟩ .nil)))))
    (case g_MOST_ROWS => k_is)
    (case dl_CODE_ROWS => k_is)
    (case dk_CODE_ROWS => repeat (first | exact trivial | refine ⟨⟨_, _, rfl, rfl⟩, ?_⟩))
    (case dw_CODE_ROWS => first | rfl | decide +kernel)
    (case pe_CODE_ROWS => exact (.cons ⟨⟨_, rfl⟩, rfl⟩ (.cons ⟨⟨_, rfl⟩, rfl⟩ (.cons ⟨⟨_, rfl⟩, rfl⟩ (.cons ⟨⟨_, rfl⟩, rfl⟩ (.cons ⟨⟨_, rfl⟩, rfl⟩ (.cons ⟨⟨_, rfl⟩, rfl⟩ (.cons ⟨⟨_, rfl⟩, rfl⟩ (.cons ⟨⟨_, rfl⟩, rfl⟩ (.cons ⟨⟨_, rfl⟩, rfl⟩ (.cons ⟨⟨_, rfl⟩, rfl⟩ (.cons ⟨⟨_, rfl⟩, rfl⟩ (.cons ⟨⟨_, rfl⟩, rfl⟩ (.cons ⟨⟨_, rfl⟩, rfl⟩ (.cons ⟨⟨_, rfl⟩, rfl⟩ .nil)))))))))))))))
    (case y_CODE_ROWS_put => k_is)
    (case u_CODE_ROWS_put => exact (.cons ⟨_, rfl⟩ (.cons ⟨_, rfl⟩ .nil)))
    (case y_CODE_ROWS_name => k_is)
    (case u_CODE_ROWS_name => exact (.cons ⟨_, rfl⟩ (.cons ⟨_, rfl⟩ .nil)))
    (case y_CODE_ROWS_add => k_is)
    (case u_CODE_ROWS_add => exact (.cons ⟨_, rfl⟩ (.cons ⟨_, rfl⟩ .nil)))
    (case y_CODE_ROWS_take => k_is)
    (case u_CODE_ROWS_take => exact (.cons ⟨_, rfl⟩ (.cons ⟨_, rfl⟩ .nil)))
    (case y_CODE_ROWS_load => k_is)
    (case u_CODE_ROWS_load => exact (.cons ⟨_, rfl⟩ (.cons ⟨_, rfl⟩ (.cons ⟨_, rfl⟩ .nil))))
    (case y_CODE_ROWS_store => k_is)
    (case u_CODE_ROWS_store => exact (.cons ⟨_, rfl⟩ (.cons ⟨_, rfl⟩ (.cons ⟨_, rfl⟩ .nil))))
    (case y_CODE_ROWS_jump => k_is)
    (case u_CODE_ROWS_jump => exact (.cons ⟨_, rfl⟩ .nil))
    (case y_CODE_ROWS_ifzero => k_is)
    (case u_CODE_ROWS_ifzero => exact (.cons ⟨_, rfl⟩ (.cons ⟨_, rfl⟩ .nil)))
    (case y_CODE_ROWS_call => k_is)
    (case u_CODE_ROWS_call => exact (.cons ⟨_, rfl⟩ .nil))
    (case y_CODE_ROWS_callby => k_is)
    (case u_CODE_ROWS_callby => exact (.cons ⟨_, rfl⟩ .nil))
    (case y_CODE_ROWS_back => k_is)
    (case u_CODE_ROWS_back => exact .nil)
    (case y_CODE_ROWS_out => k_is)
    (case u_CODE_ROWS_out => exact (.cons ⟨_, rfl⟩ .nil))
    (case y_CODE_ROWS_halt => k_is)
    (case u_CODE_ROWS_halt => exact .nil)
    (case y_CODE_ROWS_room => k_is)
    (case u_CODE_ROWS_room => exact (.cons ⟨_, rfl⟩ .nil))
    (case dl_DATA_ROWS => k_is)
    (case dk_DATA_ROWS => repeat (first | exact trivial | refine ⟨⟨_, _, rfl, rfl⟩, ?_⟩))
    (case dw_DATA_ROWS => first | rfl | decide +kernel)
    (case pe_DATA_ROWS => exact (.cons ⟨⟨_, rfl⟩, rfl⟩ (.cons ⟨⟨_, rfl⟩, rfl⟩ (.cons ⟨⟨_, rfl⟩, rfl⟩ .nil))))
    (case y_DATA_ROWS_word => k_is)
    (case u_DATA_ROWS_word => exact (.cons ⟨_, rfl⟩ .nil))
    (case y_DATA_ROWS_address => k_is)
    (case u_DATA_ROWS_address => exact (.cons ⟨_, rfl⟩ .nil))
    (case y_DATA_ROWS_room => k_is)
    (case u_DATA_ROWS_room => exact (.cons ⟨_, rfl⟩ .nil))
    (case dl_BOUNDS => k_is)
    (case dk_BOUNDS => repeat (first | exact trivial | refine ⟨⟨_, _, rfl, rfl⟩, ?_⟩))
    (case dw_BOUNDS => first | rfl | decide +kernel)
    (case pe_BOUNDS => exact (.cons ⟨⟨_, rfl⟩, rfl⟩ (.cons ⟨⟨_, rfl⟩, rfl⟩ (.cons ⟨⟨_, rfl⟩, rfl⟩ .nil))))
    (case y_BOUNDS_n => k_is)
    (case u_BOUNDS_n => exact (.cons ⟨_, rfl⟩ (.cons ⟨_, rfl⟩ .nil)))
    (case y_BOUNDS_d => k_is)
    (case u_BOUNDS_d => exact (.cons ⟨_, rfl⟩ (.cons ⟨_, rfl⟩ .nil)))
    (case y_BOUNDS_k => k_is)
    (case u_BOUNDS_k => exact (.cons ⟨_, rfl⟩ (.cons ⟨_, rfl⟩ .nil)))
    (case lc_law_written_so => k_is)
    (case tp_law_written_so => exact rfl)
    (case hd_law_written_so => kernel_rfl)
    (case np_law_written_so => kernel_rfl)
    (case tt_law_written_so => exact tabs _ (by k_mem))
    (case lc_law => k_is)
    (case tp_law => exact rfl)
    (case hd_law => kernel_rfl)
    (case np_law => kernel_rfl)
    (case tt_law => exact tabs _ (by k_mem))
    (case dd_0_1 => decide)
    (case eA_ImageError => k_is)
    (case eA_Missing => k_is)
    (case eA_InvalidName => k_is)
    (case eA_InvalidPart => k_is)
    (case eA_InvalidAlignment => k_is)
    (case eA_InvalidScope => k_is)
    (case eA_InvalidRow => k_is)
    (case eA_NotClosing => k_is)
    (case eA_TooMany => k_is)
    (case nsS => k_is)
    (case opq => k_is)
    (case ei_InvalidName => k_is)
    (case el_InvalidName => k_is)
    (case eco_InvalidName => k_is)
    (case elc_InvalidName => k_is)
    (case ef_InvalidName => exact rfl)
    (case ece_InvalidName => k_is)
    (case ecl_InvalidName => k_is)
    (case eC_InvalidName => k_is)
    (case erf_InvalidName => kernel_rfl)
    (case esa_InvalidName => k_is)
    (case eex_InvalidName => k_is)
    (case ety_InvalidName => k_is)
    (case ek_InvalidName => k_is)
    (case emr_InvalidName => k_is)
    (case esI_InvalidName => ks_is)
    (case eB_InvalidName => k_is)
    (case etI_InvalidName => k_is)
    (case emd_InvalidName => kx_is)
    (case exf_InvalidName => kernel_rfl)
    (case en_InvalidName_value => k_is)
    (case en_InvalidName_code => k_is)
    (case ei_InvalidPart => k_is)
    (case el_InvalidPart => k_is)
    (case eco_InvalidPart => k_is)
    (case elc_InvalidPart => k_is)
    (case ef_InvalidPart => exact rfl)
    (case ece_InvalidPart => k_is)
    (case ecl_InvalidPart => k_is)
    (case eC_InvalidPart => k_is)
    (case erf_InvalidPart => kernel_rfl)
    (case esa_InvalidPart => k_is)
    (case eex_InvalidPart => k_is)
    (case ety_InvalidPart => k_is)
    (case ek_InvalidPart => k_is)
    (case emr_InvalidPart => k_is)
    (case esI_InvalidPart => ks_is)
    (case eB_InvalidPart => k_is)
    (case etI_InvalidPart => k_is)
    (case emd_InvalidPart => kx_is)
    (case exf_InvalidPart => kernel_rfl)
    (case en_InvalidPart_value => k_is)
    (case en_InvalidPart_code => k_is)
    (case ei_InvalidAlignment => k_is)
    (case el_InvalidAlignment => k_is)
    (case eco_InvalidAlignment => k_is)
    (case elc_InvalidAlignment => k_is)
    (case ef_InvalidAlignment => exact rfl)
    (case ece_InvalidAlignment => k_is)
    (case ecl_InvalidAlignment => k_is)
    (case eC_InvalidAlignment => k_is)
    (case erf_InvalidAlignment => kernel_rfl)
    (case esa_InvalidAlignment => k_is)
    (case eex_InvalidAlignment => k_is)
    (case ety_InvalidAlignment => k_is)
    (case ek_InvalidAlignment => k_is)
    (case emr_InvalidAlignment => k_is)
    (case esI_InvalidAlignment => ks_is)
    (case eB_InvalidAlignment => k_is)
    (case etI_InvalidAlignment => k_is)
    (case emd_InvalidAlignment => kx_is)
    (case exf_InvalidAlignment => kernel_rfl)
    (case en_InvalidAlignment_value => k_is)
    (case en_InvalidAlignment_code => k_is)
    (case ei_InvalidScope => k_is)
    (case el_InvalidScope => k_is)
    (case eco_InvalidScope => k_is)
    (case elc_InvalidScope => k_is)
    (case ef_InvalidScope => exact rfl)
    (case ece_InvalidScope => k_is)
    (case ecl_InvalidScope => k_is)
    (case eC_InvalidScope => k_is)
    (case erf_InvalidScope => kernel_rfl)
    (case esa_InvalidScope => k_is)
    (case eex_InvalidScope => k_is)
    (case ety_InvalidScope => k_is)
    (case ek_InvalidScope => k_is)
    (case emr_InvalidScope => k_is)
    (case esI_InvalidScope => ks_is)
    (case eB_InvalidScope => k_is)
    (case etI_InvalidScope => k_is)
    (case emd_InvalidScope => kx_is)
    (case exf_InvalidScope => kernel_rfl)
    (case en_InvalidScope_value => k_is)
    (case en_InvalidScope_code => k_is)
    (case ei_InvalidRow => k_is)
    (case el_InvalidRow => k_is)
    (case eco_InvalidRow => k_is)
    (case elc_InvalidRow => k_is)
    (case ef_InvalidRow => exact rfl)
    (case ece_InvalidRow => k_is)
    (case ecl_InvalidRow => k_is)
    (case eC_InvalidRow => k_is)
    (case erf_InvalidRow => kernel_rfl)
    (case esa_InvalidRow => k_is)
    (case eex_InvalidRow => k_is)
    (case ety_InvalidRow => k_is)
    (case ek_InvalidRow => k_is)
    (case emr_InvalidRow => k_is)
    (case esI_InvalidRow => ks_is)
    (case eB_InvalidRow => k_is)
    (case etI_InvalidRow => k_is)
    (case emd_InvalidRow => kx_is)
    (case exf_InvalidRow => kernel_rfl)
    (case en_InvalidRow_at => k_is)
    (case en_InvalidRow_code => k_is)
    (case ei_NotClosing => k_is)
    (case el_NotClosing => k_is)
    (case eco_NotClosing => k_is)
    (case elc_NotClosing => k_is)
    (case ef_NotClosing => exact rfl)
    (case ece_NotClosing => k_is)
    (case ecl_NotClosing => k_is)
    (case eC_NotClosing => k_is)
    (case erf_NotClosing => kernel_rfl)
    (case esa_NotClosing => k_is)
    (case eex_NotClosing => k_is)
    (case ety_NotClosing => k_is)
    (case ek_NotClosing => k_is)
    (case emr_NotClosing => k_is)
    (case esI_NotClosing => ks_is)
    (case eB_NotClosing => k_is)
    (case etI_NotClosing => k_is)
    (case emd_NotClosing => kx_is)
    (case exf_NotClosing => kernel_rfl)
    (case en_NotClosing_code => k_is)
    (case ei_TooMany => k_is)
    (case el_TooMany => k_is)
    (case eco_TooMany => k_is)
    (case elc_TooMany => k_is)
    (case ef_TooMany => exact rfl)
    (case ece_TooMany => k_is)
    (case ecl_TooMany => k_is)
    (case eC_TooMany => k_is)
    (case erf_TooMany => kernel_rfl)
    (case esa_TooMany => k_is)
    (case eex_TooMany => k_is)
    (case ety_TooMany => k_is)
    (case ek_TooMany => k_is)
    (case emr_TooMany => k_is)
    (case esI_TooMany => ks_is)
    (case eB_TooMany => k_is)
    (case etI_TooMany => k_is)
    (case emd_TooMany => kx_is)
    (case exf_TooMany => kernel_rfl)
    (case en_TooMany_most => k_is)
    (case en_TooMany_code => k_is)
    (case exm_InvalidName => kernel_rfl)
    (case exm_InvalidPart => kernel_rfl)
    (case exm_InvalidAlignment => kernel_rfl)
    (case exm_InvalidScope => kernel_rfl)
    (case exm_InvalidRow => kernel_rfl)
    (case exm_NotClosing => kernel_rfl)
    (case exm_TooMany => kernel_rfl)

