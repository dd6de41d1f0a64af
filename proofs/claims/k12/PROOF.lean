import PyProof.Rows.All
import Wide.All
import OpenK.AllK
import Wide.FinOn
import HandS.ForMost
import HandS.Walk
import HandS.IsInst
import HandS.Zip
import HandS.Style
import HandS.Codes
import HandS.Defaults
import HandS.Evl
import HandS.More
import HandS.Strs
import HandS.FStr
import HandS.MakeKw
import HandS.MakeKwOnly
import HandS.OwnEq
import HandS.Property
import HandS.Star
import HandS.RaiseMore
import HandS.StrMore
import HandS.Text
import KE.GoesEnum
import KE.GoesMore
import KE.RegKIsAll
import KE.IntTextText
import KE.KIntText
import KE.OsScanText
import PyProof.ReprRoads
import HandS.FStrTup
import HandS.Nested
import HandS.ExcInit
import HandS.TryMany
import HandS.EndTab
import KE.KExcSuper
import KE.KSuper
import KE.KNest
import KE.KDflt
import HandS.ExcField
import HandS.WordsExc
import HandS.HotCalls
import KE.KTryMore
import KE.KExcLine
import KE.RegKSuper
import KE.KNestM
import PySem.Challenge.RW_leastimage_k12_cells_apart_and_together
set_option Elab.async false
set_option maxRecDepth 100000
set_option maxHeartbeats 4000000
set_option linter.all false
namespace Kk
open PySem L2 PyProof.Rows
end Kk
namespace SupX
open PySem PySem.Spec PyProof.Rows L2 LamX NdefX
/-! ### an __init__ whose first row is super().__init__(e) -/
/-- what the program itself must be: its file, and no global called super -/
structure ProgS (P : Program) (fl : Str) : Prop where
  file : ((P.main.file : Str) == fl) = true
  top : (P.main.scope.names.lookup ("super" : Str)).isSome = false
/-- what the written part says of the def at f of the class at D, and of the base's __init__ -/
structure SupF (fl : Str) (K : PySem.W.Frag) (mg : Str → Option Value) (B i newId : String) (bmB : List Value) (D f cc cda : Addr) (params : Arguments) (qual : Str) : Prop where
  code : PySem.W.codeIn K (.ref cda) qual = true
  file : ∃ ccl cdd vs ccs tf, K.lookup cda = some ⟨ccl, cdd, .fields vs, ccs⟩ ∧ vs[2]? = some (.str fl tf)
  cell : ∃ cl cld csl, K.lookup cc = some ⟨cl, cld, .cell (some (.ref D)), csl⟩
  cls : ∃ cd, PySem.W.clsIn K D = some cd
  sub : PySem.W.mroIn K D (.ref D) = some true
  noS : mg "super" = none
  par : ∃ ar, (params.posonlyargs ++ params.args).head? = some ar ∧ ar.arg = "self"
  ini : PySem.W.ks_superIn K D D "__init__" = some (some (.builtin i))
  isB : PySem.W.subIn K (.ref D) (.type B) = some true
  opq : PySem.W.nsIn K PySem.cStatics "thirdparty.any" = some none
  made : PySem.W.excInitIn K D bmB newId = true
section
variable {X : Cx} {pins : List (Addr × Obj)} {σ : L2.St} {H : Hp} {s : Shared} {a C : Addr} {B i newId : String} {bmB : List Value}
/-- the wrapper is called: nothing of it is told -/
theorem call_mw {us : List Value} {u : Addr} {Q : Value → Shared → Prop} (FB : ExcBaseFacts B newId i bmB) (q : PySem.W.excInitIn X.K C bmB newId = true) (I : Inv X pins σ H s) (e : H a = some (exo a C none)) (hu : s.heap.get? u = some (PySem.W.kxs_mw i a)) (hl : us.length ≤ sizeLine) (h : ∀ s', Inv X pins σ H s' → Q .none s') :
    wpAny (model X.prog X.w) X.A (call (.ref u) us) Q E s := by
  obtain ⟨nm, N', qn, bs, bm, hdct, sn, sub, ab, col, dd, k0, k1, k2, k3, k5, hC, hT⟩ := PySem.W.excInit_of I.kIn q
  obtain ⟨t1, he⟩ := exo_at I.hok e
  have fin : ∀ h' : Heap, (∀ b o, b ≠ a → s.heap.get? b = some o → h'.get? b = some o) → h'.get? a = some (PySem.W.excObj C s.heap.objs.size none .none) → h'.get? s.heap.objs.size = some (PySem.W.excTup us) → Q .none { s with heap := h' } := fun h' k hx _ => by
    have J := I.write (t' := s.toks) (x := a) (e := a) (o := exo a C none) (by rw [e]; exact True.intro) (.inl rfl) k ⟨_, hx⟩ (exo_ok hx)
    have eu : upd H a (exo a C none) = H := by
      funext b
      by_cases hb : b = a
      · rw [hb, upd_same, e]
      · rw [upd_ne hb]
    rw [eu] at J
    exact h _ J
  obtain ⟨hh, g, d, tk, os⟩ := s
  refine wpAny_call (codeAny_of_tree ?_)
  show wpAny _ X.A.in1 (callAny (.ref u) ⟨us, []⟩) _ _ _
  simp only [callAny]
  refine wpAny_bind (wpAny_load hu ?_)
  simp only [PySem.W.kxs_mw, show (Value.type "method-wrapper" == Value.type "method" || Value.type "method-wrapper" == Value.type "builtin_function_or_method" || Value.type "method-wrapper" == Value.type "method-wrapper") = true by decide, if_true]
  refine PySem.W.KFB.if_so (by decide) ?_
  refine wpAny_bind (PySem.W.check_bound_init FB.toExcCallFacts hC he rfl ?_)
  refine wpAny_bind (wpAny_pure (wpAny_pure ?_))
  refine ⟨plainId_quiet FB.init.plain _, codeAny_builtin FB.initEntry ?_⟩
  exact PySem.W.exc_init_tree (cls := .ref C) (t0 := t1) (dv := none) (c2 := .none) (c3 := .none) (b4 := .bool false) he hl fin
end
section
variable {CX : CXT} {P : Program} {w : World} {K : PySem.W.Frag} {mg : Str → Option Value} {base : Heap} {N ps : List Str} {k : Nat} {f cc cda D : Addr} {name qual : Str} {params : Arguments} {e1 : Expr} {rest : List Stmt} {scope : Scope} {dV kV doc pm ct oc : Value} {an od : Option Addr}
  {osl : Array (Option Value)} {sp : Sp} {p0 p1 p2 p3 p4 : Pos} {B i newId : String} {bmB : List Value} {fl : Str}
abbrev supRow (e1 : Expr) (p0 p1 p2 p3 p4 : Pos) : Stmt := .Expr (.Call (.Attribute (.Call (.Name "super" p0) [] [] p1) "__init__" p2) [e1] [] p3) p4
abbrev supNF (name qual : Str) (params : Arguments) (body : List Stmt) (scope : Scope) (cc cda : Addr) : NF := ⟨name, qual, params, body, scope, [("__class__", cc)], cda⟩
theorem fn_super (lk : K.lookup f = some ⟨oc, od, .func (PySem.W.ksFn name qual params (supRow e1 p0 p1 p2 p3 p4 :: rest) scope dV kV doc pm an (.ref cda) ct cc), osl⟩)
    (PS : ProgS P fl) (SF : SupF fl K mg B i newId bmB D f cc cda params qual) (FB : ExcBaseFacts B newId i bmB) (KF : PySem.W.KxsFacts B i) (S : NScope N ps ["__class__"] scope) (hks : scope.names.lookup ("super" : Str) = some .globalImplicit) (h0 : ps[0]? = some ("self" : Str))
    {pl : Env → Sem Bool} (hc : ∀ env : Env, eval (.Call (.Attribute (.Call (.Name "super" p0) [] [] p1) "__init__" p2) [e1] [] p3) env = (do
      let ov ← attributeBase (.Call (.Name "super" p0) [] [] p1) "__init__" env (eval (.Call (.Name "super" p0) [] [] p1) env)
      standAt p2.atName
      let (f, first) ← holding [ov] (getMethod ov "__init__" (pl env))
      callWith p3 f first (backTo p3 (starEach [e1] env)) []))
    (he : ∀ env : Env, starEach [e1] env = [(false, eval e1 env)]) (hsw : ∀ env : Env, swapsWith (.Call (.Attribute (.Call (.Name "super" p0) [] [] p1) "__init__" p2) [e1] [] p3) none p4.line env = pure false)
    (len : ∀ vs H Q E, sp vs H Q E → vs.length = ps.length)
    (hbody : ∀ (A : Around) (outer : List Env) (s : Shared) (H : Hp) (vs : List V) (Q : VK) (E : XK), Room k (A.deeper (envF (supNF name qual params (supRow e1 p0 p1 p2 p3 p4 :: rest) scope cc cda) f s.heap.objs.size)) → sp vs H Q E →
      ∃ a ta tr, vs[0]? = some (.ref a) ∧ H a = some (exo a D none) ∧ PA (ncx CX P w K mg base N (supNF name qual params (supRow e1 p0 p1 p2 p3 p4 :: rest) scope cc cda) f A outer s H E) [e1] ta ∧ PSs (ncx CX P w K mg base N (supNF name qual params (supRow e1 p0 p1 p2 p3 p4 :: rest) scope cc cda) f A outer s H E) rest tr ∧
        ta (startF N vs [none]) H fun ws H1 => ws.length ≤ 1000 ∧ H1 a = some (exo a D none) ∧ tr { nx := fun _ H' => Q .non H', rt := Q } (startF N vs [none]) H1) :
    FnOk P w K mg base CX (k + 1) f (PySem.W.ksFn name qual params (supRow e1 p0 p1 p2 p3 p4 :: rest) scope dV kV doc pm an (.ref cda) ct cc) ps sp := by
  refine ⟨len, fun A outer s H args us vs Q E hr e0 hb r hsp => ?_⟩
  have hl := len _ _ _ _ hsp
  have KX : K.In s.heap := e0.mod.kin.keeps fun b o e => (e0.bs b o e).1
  have KB : K.In base := e0.mod.kin
  have lim : s.heap.NoLimit := e0.mod.nolimit.keeps fun b o e => (e0.bs b o e).1
  obtain ⟨a, ta, tr, hv0, ha, pa, pr, q⟩ := hbody A outer s H vs Q E (hr.deeper _) hsp
  obtain ⟨clc, cdc, vsC, ccs, tf, hcode, hvs⟩ := SF.file
  obtain ⟨cl, cld, csl, hcell⟩ := SF.cell
  obtain ⟨cd, hcd⟩ := SF.cls
  obtain ⟨ar, hpar, har⟩ := SF.par
  have hkc : scope.names.lookup ("__class__" : Str) = some .free := S.frk _ (by simp)
  have hka : scope.names.lookup ar.arg = some .local := by
    rw [har]
    exact S.par _ (List.mem_of_getElem? h0)
  have C : CellsAt [(("__class__" : Str), cc)] ["__class__"] [none] s.heap H := by
    have hc : s.heap.IsCell cc (some (.ref D)) := ⟨_, KX _ _ hcell, rfl⟩
    refine ⟨rfl, fun y c h => ?_, fun x y c h1 h2 => ?_, fun j y h => ?_⟩
    · have e : c = cc := by
        simp only [List.lookup] at h
        split at h
        · exact (Option.some.inj h).symm
        · cases h
      rw [e]
      exact ⟨(e0.bs _ _ (KB _ _ hcell)).2, _, hc⟩
    · have e1 : x = "__class__" := by
        simp only [List.lookup] at h1
        split at h1
        · rename_i z
          exact eq_of_beq z
        · cases h1
      have e2 : y = "__class__" := by
        simp only [List.lookup] at h2
        split at h2
        · rename_i z
          exact eq_of_beq z
        · cases h2
      rw [e1, e2]
    · match j, h with
      | 0, h =>
        have e : y = "__class__" := (Option.some.inj h).symm
        subst e
        exact ⟨cc, by simp [List.lookup], fun v z => by cases z⟩
      | j + 1, h => exact absurd h (by simp)
  refine ks_codeAny_call_defAt (fd := PySem.W.ksFn name qual params (supRow e1 p0 p1 p2 p3 p4 :: rest) scope dV kV doc pm an (.ref cda) ct cc) (body := supRow e1 p0 p1 p2 p3 p4 :: rest) (binds := ps.zip us) hr.depth (KX _ _ lk) rfl lim (PySem.W.codeRec_of KX SF.code) rfl hb S.nocell (fun ⟨n, _⟩ hy => S.par n (List.of_mem_zip hy).1) (fun h1 hns kp => ?_) S.co S.gen S.kind
  have I : Inv (ncx CX P w K mg base N (supNF name qual params (supRow e1 p0 p1 p2 p3 p4 :: rest) scope cc cda) f A outer s H E) [] (startF N vs [none]) H { s with heap := h1, toks := s.toks + (ps.zip us).length } := inv_startN (F := supNF name qual params (supRow e1 p0 p1 p2 p3 p4 :: rest) scope cc cda) S hr.hd e0 hl r C hns kp
  show _root_.PySem.wpAt (model P w) (A.deeper (envF (supNF name qual params (supRow e1 p0 p1 p2 p3 p4 :: rest) scope cc cda) f s.heap.objs.size)) (.func (supRow e1 p0 p1 p2 p3 p4 :: rest) (envF (supNF name qual params (supRow e1 p0 p1 p2 p3 p4 :: rest) scope cc cda) f s.heap.objs.size)) (execs (supRow e1 p0 p1 p2 p3 p4 :: rest) (envF (supNF name qual params (supRow e1 p0 p1 p2 p3 p4 :: rest) scope cc cda) f s.heap.objs.size)) _ _ _
  refine ks_wpAt_execs_cons (ks_wpAt_Expr_any (ks_wpAt_MethodCall ?_ (hc _)) I.quiet (hsw _))
  have X : K.In h1 := KX.keeps kp
  obtain ⟨oD, hD1, hD2⟩ : ∃ oD, h1.get? D = some oD ∧ oD.data = .cls cd := by
    unfold PySem.W.clsIn at hcd
    split at hcd
    · rename_i c d cd' sl ho
      cases hcd
      exact ⟨_, X _ _ ho, rfl⟩
    · cases hcd
  refine ks_wpAt_super_base (env := envF (supNF name qual params (supRow e1 p0 p1 p2 p3 p4 :: rest) scope cc cda) f s.heap.objs.size) hks hkc (by decide) rfl (X _ _ lk) rfl hpar rfl (X _ _ hcode) rfl hvs PS.file PS.top ?_
  obtain ⟨mb, hmb, hboot⟩ := I.mod.blt
  refine PySem.W.ks_loadName_global S.kind hks (Calls.loadGlobal_builtin (env := envF (supNF name qual params (supRow e1 p0 p1 p2 p3 p4 :: rest) scope cc cda) f s.heap.objs.size) (I.mod.glob.keeps I.bk) SF.noS (hmb.keeps I.bk) ((hboot _ (by decide)).trans (by first | boot_by_name | rfl | kernel_rfl)) ⟨rfl, ?_⟩)
  refine wpAny_loadName_free (env := envF (supNF name qual params (supRow e1 p0 p1 p2 p3 p4 :: rest) scope cc cda) f s.heap.objs.size) S.kind hkc rfl ⟨_, X _ _ hcell, rfl⟩ ?_
  obtain ⟨u0, hu0, ru0⟩ := r.get hv0
  obtain rfl : u0 = Value.ref a := ru0
  have ndP : ps.Nodup := by
    have q := S.nd.sublist (List.take_sublist (ps.length + 1) N)
    rw [show N.take (ps.length + 1) = ps ++ [("__class__" : Str)] from S.pre] at q
    exact (List.nodup_append.mp q).1
  have hlook : (ps.zip us).reverse.lookup ar.arg = some (.ref a) := by
    rw [har]
    exact zip_look ndP h0 hu0
  refine wpAny_loadName_local S.kind hka hns hlook ?_
  refine ks_wpAny_isType_cls hD1 hD2 ⟨rfl, ?_⟩
  obtain ⟨t1, hx⟩ := exo_at I.hok ha
  refine ks_wpAny_call_super hD1 hD2 hx rfl (fun c e => by cases e) (PySem.W.looks_mroIn X SF.sub) (fun h2 eso k2 => ?_)
  have I2 := I.kept (t' := s.toks + (ps.zip us).length) k2
  have IA : PySem.W.InstAt h2 a { cls := .ref D, data := .fields #[.ref t1, .none, .none, .none, .bool false, .none] } D none := ⟨k2 _ _ hx, rfl, rfl, trivial⟩
  have X2 : K.In h2 := X.keeps k2
  have hsi := SF.ini
  unfold PySem.W.ks_superIn at hsi
  rw [hcd] at hsi
  refine PySem.W.kxs_getMethod KF eso (PySem.W.looks_opaque X2 SF.opq) (l₀ := cd.mro) (fun A Q E s k q => wpAny_bind ((PySem.W.looks_clsIn X2 hcd) A _ E s k (wpAny_pure q))) rfl X2 hsi (IA.type.andThen (PySem.W.looks_subIn X2 SF.isB)) (PySem.W.ks_ne X2 IA hcd) (by decide) ?_
  have k3 : ∀ b o, h2.get? b = some o → (h2.push (PySem.W.kxs_mw i a)).get? b = some o := fun b o e => Heap.get?_push_of_some _ e
  have I3 := I2.kept (t' := s.toks + (ps.zip us).length + 1) k3
  have nu : H h2.objs.size = none := I2.hok.fresh (Nat.le_refl _)
  have I4 := I3.pins_of (pins' := [(h2.objs.size, PySem.W.kxs_mw i a)]) (fun p hp => by
    obtain rfl := List.mem_singleton.mp hp
    refine ⟨Heap.get?_push_at rfl rfl, nu, fun z => ?_, I2.nofs (Nat.le_refl _), fun v z => by cases z⟩
    obtain ⟨oL, es, ep, hL, _⟩ := hns
    have y := Heap.lt_size (k2 _ _ hL)
    exact absurd (show h2.objs.size = s.heap.objs.size from z) (Nat.ne_of_gt y))
  refine PySem.W.kxs_callWith (i := i) (x := a) ?_ ?_
  · rw [he]
    rfl
  have hrun := thn (pa.run p3 [(h2.objs.size, PySem.W.kxs_mw i a)] _ (startF N vs [none]) H _ I4 q) (Q' := fun ws s₁ => PySem.W.KxsAt i h2.objs.size a s₁.heap ∧ wpAny (model P w) (A.deeper (envF (supNF name qual params (supRow e1 p0 p1 p2 p3 p4 :: rest) scope cc cda) f s.heap.objs.size)) (call (.ref h2.objs.size) ([] ++ ws))
      (fun _ s' => PySem.wpAt (model P w) (A.deeper (envF (supNF name qual params (supRow e1 p0 p1 p2 p3 p4 :: rest) scope cc cda) f s.heap.objs.size)) (.func (supRow e1 p0 p1 p2 p3 p4 :: rest) (envF (supNF name qual params (supRow e1 p0 p1 p2 p3 p4 :: rest) scope cc cda) f s.heap.objs.size)) (execs rest (envF (supNF name qual params (supRow e1 p0 p1 p2 p3 p4 :: rest) scope cc cda) f s.heap.objs.size)) (fun fl s' => CR CX outer P w H s Q E (.ok (.ret (match fl with | .ret v => v | _ => .none))) s') (ncx CX P w K mg base N (supNF name qual params (supRow e1 p0 p1 p2 p3 p4 :: rest) scope cc cda) f A outer s H E).xe s') (ncx CX P w K mg base N (supNF name qual params (supRow e1 p0 p1 p2 p3 p4 :: rest) scope cc cda) f A outer s H E).xe s₁) fun ws s₁ ⟨vs1, H1, I5, r1, hz, h1a, q1⟩ => by
    have hp := (I5.pin (h2.objs.size, PySem.W.kxs_mw i a) (by simp [ncx])).1
    refine ⟨hp, call_mw FB SF.made I5 h1a hp (by rw [List.nil_append, ← Paired.length r1, sizeLine_eq]; omega) fun s' J => ?_⟩
    refine wpAt_of_wpAny (wpAny_mono (pr.run _ _ (startF N vs [none]) H1 _ J q1) (fun fl s' hs => ?_) fun e s' hs => hs)
    have fin : ∀ {σ' : L2.St} {H' : Hp} {v : V} {u : Value}, Inv (ncx CX P w K mg base N (supNF name qual params (supRow e1 p0 p1 p2 p3 p4 :: rest) scope cc cda) f A outer s H E) [(h2.objs.size, PySem.W.kxs_mw i a)] σ' H' s' → L2.RelV v u → Q v H' → CE outer P w H s Q u s' :=
      fun {σ' H' v u} J rv q => ⟨v, H', J.os, J.bare, J.base, J.hok, rv, q⟩
    cases fl with
    | ret u =>
      obtain ⟨v, σ', H', J, rv, q⟩ := hs
      exact fin J rv q
    | next =>
      obtain ⟨σ', H', J, q⟩ := hs
      exact fin (v := V.non) (u := Value.none) J rfl q
    | brk =>
      obtain ⟨_, _, _, q⟩ := hs
      exact False.elim q
    | cont =>
      obtain ⟨_, _, _, q⟩ := hs
      exact False.elim q
  rw [he] at hrun ⊢
  exact Calls.evalArgs_plain hrun
end
end SupX
namespace Kk
open PySem L2 PyProof.Rows

end Kk
namespace PySem
open PySem.Spec PyProof.Rows
open Sem
section
theorem rpx_list_head {M : Model} {A : Around} {E : Value → Shared → Prop} {s : Shared} {Q : Fin → Shared → Prop} {a : Addr} {o : Obj} {x : Value} {l : List Value} {n : Nat} {b : Nat}
    (hget : s.heap.get? a = some o) (hd : o.data = .seq (x :: l).toArray n) (h1 : wpAny M A (do rule "list.__repr__.in-itself"; return ← retStr "[...]") Q E s)
    (h : wpAny M A (do again (.builtin "list.__repr__.loop" ⟨[.ref a, rawInt 0, ← newList [], rawInt b], []⟩)) Q E s) : wpAny M A (Builtin.listReprAt b ⟨[.ref a], []⟩) Q E s := by
  intro Γ p hΓ
  have e2 := h Γ p hΓ
  have e1 := h1 Γ p hΓ
  unfold Builtin.listReprAt
  simp [slotArgs, Builtin.List.listItems, seqItems?, wp_load_of (h := hget), hd, stack]
  show wp M Γ (if (Γ.below.any _) = true then _ else _) _ _ p s
  split
  · simpa using e1
  · exact e2
end
section
variable {prog : Program} {w : World} {A : Around} {E : Value → Shared → Prop} {s : Shared} {a : Addr} {oa : Obj} {x : Value} {l : List Value} {na : Nat} {ts : List Str}
theorem rpx_item {prog : Program} {w : World} : ∀ {l : List Value} {ts : List Str}, ReprAll prog w l ts → ∀ (i : Nat) (y : Value), l[i]? = some y → ∃ t, ts[i]? = some t ∧ ReprIs prog w y t
  | _, _, .nil, _, _, e => by simp at e
  | _, _, .cons h _, 0, _, e => by
    simp at e
    subst e
    exact ⟨_, rfl, h⟩
  | _, _, .cons _ r, i + 1, y, e => by
    obtain ⟨t, h1, h2⟩ := rpx_item r i y (by simpa using e)
    exact ⟨t, by simpa using h1, h2⟩
theorem rpx_list {Q : Value → Shared → Prop} (hTy : s.TypeIs (.ref a) "list") (ha : s.heap.get? a = some oa) (hda : oa.data = .seq (x :: l).toArray na) (hT : ReprAll prog w (x :: l) ts)
    (hsz : (listText ts).length ≤ sizeLine) (h : ∀ h' m u tk, (∀ b o, s.heap.get? b = some o → h'.get? b = some o) → m.length ≤ (listText ts).length + 5 → Q (.str m u) { s with heap := h', toks := tk }) :
    wpAny (model prog w) A (call (.builtin "list.__repr__") [.ref a]) Q E s := by
  refine wpAny_call (codeAny_call_builtin F.slot_list_repr.plain F.entry_list_repr (F.slot_list_repr.check _ _ _ _ _ _ _ _ hTy (F.args_list_repr_1 _) ?_))
  show wpAny (model prog w) A.in1 (Builtin.listReprAt 0 ⟨[.ref a], []⟩) _ _ s
  refine rpx_list_head ha hda ?_ ?_
  · refine wpAny_bind (wpAny_rule ?_)
    refine wpAny_bind (wpAny_mkStr (wpAny_pure ?_) (by decide +kernel))
    exact h s.heap "[...]" _ _ (fun _ _ e => e) (Nat.le_trans (show ("[...]" : Str).length ≤ 5 by decide +kernel) (Nat.le_add_left _ _))
  · refine wpAny_bind (m := newList []) (wpAny_newObj_type ?_)
    refine wpAny_pure ⟨F.quiet_list_repr_loop _, ?_⟩
    refine codeAny_list_repr_start (P := s.heap.objs.size) (Nat.ne_of_lt (Heap.lt_size ha)) (ts := ts) (by simpa using hT.length_eq) (fun i y e => rpx_item hT i y (by simpa using e)) (Heap.get?_push_of_some _ ha) hda (Heap.get?_push_size _ rfl) (fun h' u tk hk => ?_) (by omega)
    exact h h' (listText ts) u tk (fun b o e => hk b o (Nat.ne_of_lt (Heap.lt_size e)) (Heap.get?_push_of_some _ e)) (Nat.le_add_right _ _)
/-- repr of a list or tuple of plain things, whatever is under way: some text -/
theorem rpx_tupleObj {o : Obj} {items : Array Value} {n : Nat} {Q : Value → Shared → Prop} (hu : A.units < cLine) (ha : s.heap.get? a = some o) (hc : o.cls = .type "tuple") (hd : o.data = .seq items n) (hT : ReprAll prog w items.toList ts) (hsz : (tupleText ts).length ≤ sizeLine)
    (h : ∀ (m : Str) (u tk : Tok), m.length ≤ (tupleText ts).length + 5 → Q (.str m u) { s with toks := tk }) : wpAny (model prog w) A (pyReprObj (.ref a)) Q E s :=
  wpAny_pyReprObj_slot hu ⟨o, ha, hc⟩ F.slot_tuple_repr (fmt_tuple_repr ha hc hd hT hsz fun m u tk hm => ⟨m, u, rfl, h m u tk hm⟩)
theorem rpx_listObj {o : Obj} {items : Array Value} {n : Nat} {Q : Value → Shared → Prop} (hu : A.units < cLine) (ha : s.heap.get? a = some o) (hc : o.cls = .type "list") (hd : o.data = .seq items n) (hT : ReprAll prog w items.toList ts) (hsz : (listText ts).length ≤ sizeLine)
    (h : ∀ h' m u tk, (∀ b o, s.heap.get? b = some o → h'.get? b = some o) → m.length ≤ (listText ts).length + 5 → Q (.str m u) { s with heap := h', toks := tk }) : wpAny (model prog w) A (pyReprObj (.ref a)) Q E s := by
  obtain ⟨l⟩ := items
  cases l with
  | nil => exact wpAny_pyReprObj_list_empty ⟨o, ha, hc⟩ hu ha hd (h s.heap "[]" _ _ (fun _ _ e => e) (Nat.le_trans (show ("[]" : Str).length ≤ 5 by decide +kernel) (Nat.le_add_left _ _)))
  | cons x l =>
    exact wpAny_pyReprObj_slot hu ⟨o, ha, hc⟩ F.slot_list_repr.toG (rpx_list ⟨o, ha, hc⟩ ha hd hT hsz fun h' m u tk k hm => ⟨m, u, rfl, h h' m u tk k hm⟩)
end
end PySem
namespace L2
open PySem PySem.Spec PyProof.Rows
/-- a plain thing and its text -/
inductive Flat : V → Str → Prop
  | non : Flat .non "None"
  | bl (b : Bool) : Flat (.bl b) (if b then "True" else "False")
  | int (i : Int) (h : i.natAbs.log2 < 1920) : Flat (.int i) (toString i)
  | str (z : Str) (h : (reprText z).length ≤ sizeLine) : Flat (.str z) (reprText z)
inductive FlatA : List V → List Str → Prop
  | nil : FlatA [] []
  | cons {x : V} {t : Str} {xs : List V} {ts : List Str} (h : Flat x t) (r : FlatA xs ts) : FlatA (x :: xs) (t :: ts)
theorem FlatA.repr {prog : Program} {w : World} : ∀ {xs : List V} {ts : List Str}, FlatA xs ts → ∀ {its : List Value}, Vals xs its → ReprAll prog w its ts
  | _, _, .nil, _, r => by
    cases r
    exact .nil
  | _, _, .cons h r, _, v => by
    cases v with
    | cons v1 v2 =>
      refine .cons ?_ (r.repr v2)
      cases h with
      | non => cases v1; exact ReprIs.none
      | bl b => cases v1; exact ReprIs.bool b
      | int i h => obtain ⟨t, rfl⟩ := v1; exact ReprIs.int t h
      | str z h => obtain ⟨t, rfl⟩ := v1; exact ReprIs.str z t h
theorem list_text : ∀ ts : List Str, (listText ts).length ≤ piled ts + 2
  | [] => by decide +kernel
  | t :: r => by
    have h := textFrom_length_pos r 1 (("[" : Str) ++ (if (0 : Nat) > 0 then ", " else "" : String) ++ t) (Nat.succ_pos 0)
    have e : ((("[" : Str) ++ (if (0 : Nat) > 0 then ", " else "" : String) ++ t)).length = 1 + t.length := by
      rw [strLen_append, strLen_append]; rfl
    have hX : (listText (t :: r)).length = (textFrom 0 "[" (t :: r)).length + 1 := by
      show (textFrom 0 "[" (t :: r) ++ "]").length = _
      rw [strLen_append]; rfl
    have hY : (textFrom 0 "[" (t :: r)).length = (textFrom 1 (("[" : Str) ++ (if (0 : Nat) > 0 then ", " else "" : String) ++ t) r).length := rfl
    rw [hX, hY, h, e, piled_cons]
    omega
/-- what {x!r} comes to is no longer than c and a little -/
def Shows (K : PySem.W.Frag) (H : Hp) (x : V) (c : Nat) : Prop := (∃ t, Flat x t ∧ t.length ≤ c) ∨ ∃ (a : Addr) (xs : List V) (ts : List Str), x = .ref a ∧ (SqT K H a xs ∨ SqL K H a xs) ∧ FlatA xs ts ∧ piled ts ≤ c
def RFmtX (K : PySem.W.Frag) (x : V) (H1 : Hp) (Q : VK) : Prop := ∃ c : Nat, Shows K H1 x c ∧ c + 7 ≤ sizeLine ∧ ∀ m : Str, m.length ≤ c + 7 → Q (.str m) H1
def tFmtX (K : PySem.W.Frag) (te : TE) : TE := fun σ H Q => te σ H fun x H1 => RFmtX K x H1 Q
theorem pe_fmtX {X : Cx} {e : Expr} {te : TE} {pos : Pos} {k : Nat} (hr : Room k X.A) (he : PE X e te) : PE X (.FormattedValue e 114 none pos) (tFmtX X.K te) := by
  refine ⟨fun pins s σ H Q I h => ?_⟩
  refine wpAny_FormattedValue_repr (thn (he.run pins s σ H _ I h) fun v s1 hv => ?_)
  obtain ⟨x, H1, I1, r1, c, sh, hz, q⟩ := hv
  have fin : ∀ (m : Str) (u : Tok) (s2 : Shared), Inv X pins σ H1 s2 → m.length ≤ c + 7 → wpAny (model X.prog X.w) X.A (formatField (.str m u) Str.empty) (fun r s' => ∃ y H', Inv X pins σ H' s' ∧ RelV y r ∧ Q y H') X.xe s2 := fun m u s2 I2 hm =>
    wpAny_formatField_str ⟨.str m, H1, I2, ⟨_, rfl⟩, q m hm⟩ ⟨.str m, H1, I2.tok _, ⟨_, rfl⟩, q m hm⟩ (by omega)
  have hu := hr.units
  rcases sh with ⟨t, hf, ht⟩ | ⟨a, xs, ts, rfl, hs, hf, ht⟩
  · cases hf with
    | non => cases r1; exact pyReprObj_none (fin _ _ _ (I1.tok _) (by omega))
    | bl b => cases r1; exact pyReprObj_bool (fin _ _ _ (I1.tok _) (by omega))
    | int i h => obtain ⟨t, rfl⟩ := r1; exact pyReprObj_int h (fin _ _ _ (I1.tok _) (by omega))
    | str z h => obtain ⟨t, rfl⟩ := r1; exact pyReprObj_str (fin _ _ _ (I1.tok _) (by omega)) h
  · cases r1
    rcases hs with hs | hs
    · obtain ⟨its, rv, ⟨o, ho, hcl, n, hd⟩, _⟩ := I1.tuple hs
      have htx := fmt_text ts
      exact rpx_tupleObj (ts := ts) (by omega) ho hcl hd (hf.repr rv) (by omega) fun m u tk hm => fin m u _ (I1.tok _) (by omega)
    · obtain ⟨its, rv, ⟨o, n, ho, hcl, _, hd⟩, _⟩ := I1.list hs
      have htx := list_text ts
      exact rpx_listObj (ts := ts) (by omega) ho hcl hd (hf.repr rv) (by omega) fun h' m u tk k hm => fin m u _ (I1.kept k) (by omega)
end L2
namespace Kk
open PySem L2 PyProof.Rows

end Kk
namespace Lend
open PySem PySem.Spec PyProof.Rows L2
/-! ### cells lent to a callee: tracked there as they stand, let go behind it -/
def CelO (c : Addr) (o : Obj) : HO := .ext fun h => h.get? c = some o
def lend (H : Hp) (cs : List (Addr × Obj)) : Hp := fun b => match cs.lookup b with
  | some o => some (CelO b o)
  | none => H b
def unl (H : Hp) (cs : List (Addr × Obj)) : Hp := fun b => match cs.lookup b with
  | some _ => none
  | none => H b
theorem celO_own {c x : Addr} {o : Obj} : CelO c o ≠ .own x := fun z => by
  have z' : HO.ext _ = HO.own x := z
  cases z'
theorem celO_tup {c : Addr} {o : Obj} {xs : List V} : CelO c o ≠ .tup xs := fun z => by
  have z' : HO.ext _ = HO.tup xs := z
  cases z'
theorem celO_frz {c : Addr} {o u : Obj} {v : HO} : CelO c o ≠ .frz u v := fun z => by
  have z' : HO.ext _ = HO.frz u v := z
  cases z'
theorem celO_tbl {c : Addr} {o : Obj} {ps : Array Value} : CelO c o ≠ .tbl ps := fun z => by
  have z' : HO.ext _ = HO.tbl ps := z
  cases z'
section
variable {P : Program} {w : World} {H H' : Hp} {h h' : Heap} {cs : List (Addr × Obj)} {fs : List Addr} {b : Addr} {o : Obj}
theorem lend_in (e : cs.lookup b = some o) : lend H cs b = some (CelO b o) := by
  unfold lend
  rw [e]
theorem lend_out (e : cs.lookup b = none) : lend H cs b = H b := by
  unfold lend
  rw [e]
theorem unl_in (e : cs.lookup b = some o) : unl H cs b = none := by
  unfold unl
  rw [e]
theorem unl_out (e : cs.lookup b = none) : unl H cs b = H b := by
  unfold unl
  rw [e]
theorem cel_at (hok : HOk P w H h) (e : H b = some (CelO b o)) : h.get? b = some o := by
  have x : ObjOk P w H h b (.ext fun h => h.get? b = some o) := hok b _ e
  exact x.1
/-- outside: the cells stand in the heap and are not tracked -/
def Outs (H : Hp) (h : Heap) (cs : List (Addr × Obj)) : Prop := ∀ b o, cs.lookup b = some o → h.get? b = some o ∧ H b = none
/-- inside: they are tracked as they stand -/
def Ins (H : Hp) (cs : List (Addr × Obj)) : Prop := ∀ b o, cs.lookup b = some o → H b = some (CelO b o)
theorem Outs.off {u : HO} (c : Outs H h cs) (e : H b = some u) : cs.lookup b = none := by
  cases z : cs.lookup b with
  | none => rfl
  | some o =>
    rw [(c b o z).2] at e
    cases e
theorem Ins.off (c : Ins H cs) (e : H b = none) : cs.lookup b = none := by
  cases z : cs.lookup b with
  | none => rfl
  | some o =>
    rw [c b o z] at e
    cases e
theorem Ins.offO {u : HO} (c : Ins H cs) (e : H b = some u) (n : ∀ o, CelO b o ≠ u) : cs.lookup b = none := by
  cases z : cs.lookup b with
  | none => rfl
  | some o =>
    rw [c b o z] at e
    exact absurd (Option.some.inj e) (n o)
theorem lend_ins : Ins (lend H cs) cs := fun _ _ e => lend_in e
theorem lend_ok (hok : HOk P w H h) (c : Outs H h cs) : HOk P w (lend H cs) h := fun b u e => by
  cases z : cs.lookup b with
  | some o =>
    rw [lend_in z] at e
    cases e
    exact ⟨(c b o z).1, ⟨o, (c b o z).1⟩, fun h1 h2 p st => st _ p⟩
  | none =>
    rw [lend_out z] at e
    exact (hok b u e).stay (fun _ _ _ q => q) (fun d q => by rw [lend_out (c.off q)]; exact q) (fun d xs q => by rw [lend_out (c.off q)]; exact q)
theorem unl_ok (hok : HOk P w H h) (c : Ins H cs) : HOk P w (unl H cs) h := fun b u e => by
  cases z : cs.lookup b with
  | some o =>
    rw [unl_in z] at e
    cases e
  | none =>
    rw [unl_out z] at e
    exact (hok b u e).stay (fun _ _ _ q => q) (fun d q => by rw [unl_out (c.offO q fun _ => celO_own)]; exact q) (fun d xs q => by rw [unl_out (c.offO q fun _ => celO_tup)]; exact q)
theorem unl_outs (hok : HOk P w H h) (c : Ins H cs) : Outs (unl H cs) h cs := fun b o e => ⟨cel_at hok (c b o e), unl_in e⟩
/-- behind a call to which the cells were lent -/
theorem un_out (u : Un fs [] (lend H cs) H' h h') (c : Outs H h cs) (d : Ins H' cs) (hok : HOk P w H' h') : Un fs [] H (unl H' cs) h h' where
  keep := fun b o e n hf hx => by
    cases z : cs.lookup b with
    | some v =>
      rw [(c b v z).1] at e
      cases e
      exact cel_at hok (d b _ z)
    | none => exact u.keep b o e (by rw [lend_out z]; exact n) hf hx
  slot := fun b o e n hf hx => by
    cases z : cs.lookup b with
    | some v =>
      rw [(c b v z).1] at e
      cases e
      exact ⟨_, cel_at hok (d b _ z)⟩
    | none => exact u.slot b o e (by rw [lend_out z]; exact n) hf hx
  free := fun b o e n hx => by
    cases z : cs.lookup b with
    | some v => exact unl_in z
    | none =>
      rw [unl_out z]
      exact u.free b o e (by rw [lend_out z]; exact n) hx
  there := u.there
  tups := fun b xs e => by
    rw [unl_out (c.off e)]
    exact u.tups b xs (by rw [lend_out (c.off e)]; exact e)
  frzs := fun b o v e => by
    rw [unl_out (c.off e)]
    exact u.frzs b o v (by rw [lend_out (c.off e)]; exact e)
  tbls := fun b ps e => by
    rw [unl_out (c.off e)]
    exact u.tbls b ps (by rw [lend_out (c.off e)]; exact e)
/-- within a callee: the cells are its own for a while -/
theorem un_in (u : Un fs [] (unl H cs) H' h h') (c : Ins H cs) : Un fs [] H (lend H' cs) h h' where
  keep := fun b o e n hf hx => u.keep b o e (by rw [unl_out (c.off n)]; exact n) hf hx
  slot := fun b o e n hf hx => u.slot b o e (by rw [unl_out (c.off n)]; exact n) hf hx
  free := fun b o e n hx => by
    rw [lend_out (c.off n)]
    exact u.free b o e (by rw [unl_out (c.off n)]; exact n) hx
  there := u.there
  tups := fun b xs e => by
    have z := c.offO e fun _ => celO_tup
    rw [lend_out z]
    exact u.tups b xs (by rw [unl_out z]; exact e)
  frzs := fun b o v e => by
    have z := c.offO e fun _ => celO_frz
    rw [lend_out z]
    exact u.frzs b o v (by rw [unl_out z]; exact e)
  tbls := fun b ps e => by
    have z := c.offO e fun _ => celO_tbl
    rw [lend_out z]
    exact u.tbls b ps (by rw [unl_out z]; exact e)
/-- what was theirs for a while is lent again -/
theorem outs_after (u : Un fs [] (unl H cs) H' h h') (hok : HOk P w H h) (c : Ins H cs) (nf : ∀ b o, cs.lookup b = some o → b ∉ fs) : Outs H' h' cs := fun b o e => by
  have hb := cel_at hok (c b o e)
  exact ⟨u.keep b o hb (unl_in e) (nf b o e) (by simp), u.free b o hb (unl_in e) (by simp)⟩
theorem env0_unl {K : PySem.W.Frag} {mg : Str → Option Value} {base : Heap} {A : Around} {outer : List Env} {s : Shared} (e0 : Env0 P w K mg base A outer s H) (c : Ins H cs) : Env0 P w K mg base A outer s (unl H cs) :=
  ⟨e0.frames, e0.mod, fun b o e => ⟨(e0.bs b o e).1, by rw [unl_out (c.off (e0.bs b o e).2)]; exact (e0.bs b o e).2⟩, e0.bsz, e0.funs, fun b hb => by rw [unl_out (c.off (e0.frf b hb))]; exact e0.frf b hb, unl_ok e0.hok c, e0.bare⟩
theorem env0_lend {K : PySem.W.Frag} {mg : Str → Option Value} {base : Heap} {A : Around} {outer : List Env} {s : Shared} (e0 : Env0 P w K mg base A outer s H) (c : Outs H s.heap cs) (nb : ∀ b o, cs.lookup b = some o → base.get? b = none) (nf : ∀ b o, cs.lookup b = some o → b ∉ frs outer) : Env0 P w K mg base A outer s (lend H cs) :=
  ⟨e0.frames, e0.mod, fun b o e => ⟨(e0.bs b o e).1, by
    cases z : cs.lookup b with
    | some v =>
      rw [nb b v z] at e
      cases e
    | none =>
      rw [lend_out z]
      exact (e0.bs b o e).2⟩, e0.bsz, e0.funs, fun b hb => by
    cases z : cs.lookup b with
    | some v => exact absurd hb (nf b v z)
    | none =>
      rw [lend_out z]
      exact e0.frf b hb, lend_ok e0.hok c, e0.bare⟩
theorem ub_in {B : Heap} (u : UB fs (unl H cs) H' h B h') (c : Ins H cs) : UB fs H (lend H' cs) h B h' where
  keep := fun b o e n hf => u.keep b o e (by rw [unl_out (c.off n)]; exact n) hf
  slot := u.slot
  free := fun b o e n => by
    rw [lend_out (c.off n)]
    exact u.free b o e (by rw [unl_out (c.off n)]; exact n)
  there := u.there
  tups := fun b xs e => by
    have z := c.offO e fun _ => celO_tup
    rw [lend_out z]
    exact u.tups b xs (by rw [unl_out z]; exact e)
  frzs := fun b o v e => by
    have z := c.offO e fun _ => celO_frz
    rw [lend_out z]
    exact u.frzs b o v (by rw [unl_out z]; exact e)
  tbls := fun b ps e => by
    have z := c.offO e fun _ => celO_tbl
    rw [lend_out z]
    exact u.tbls b ps (by rw [unl_out z]; exact e)
theorem ub_out {B : Heap} (u : UB fs (lend H cs) H' h B h') (c : Outs H h cs) (d : Ins H' cs) (hok : HOk P w H' B) : UB fs H (unl H' cs) h B h' where
  keep := fun b o e n hf => by
    cases z : cs.lookup b with
    | some v =>
      rw [(c b v z).1] at e
      cases e
      exact cel_at hok (d b _ z)
    | none => exact u.keep b o e (by rw [lend_out z]; exact n) hf
  slot := u.slot
  free := fun b o e n => by
    cases z : cs.lookup b with
    | some v => exact unl_in z
    | none =>
      rw [unl_out z]
      exact u.free b o e (by rw [lend_out z]; exact n)
  there := u.there
  tups := fun b xs e => by
    rw [unl_out (c.off e)]
    exact u.tups b xs (by rw [lend_out (c.off e)]; exact e)
  frzs := fun b o v e => by
    rw [unl_out (c.off e)]
    exact u.frzs b o v (by rw [lend_out (c.off e)]; exact e)
  tbls := fun b ps e => by
    rw [unl_out (c.off e)]
    exact u.tbls b ps (by rw [lend_out (c.off e)]; exact e)
theorem cx_in {outer : List Env} {s s' : Shared} {E : XK} {u : Value} (x : L2.CX P w outer (unl H cs) s (fun cls d H' => E cls d (lend H' cs)) u s') (hok : HOk P w H s.heap) (c : Ins H cs) (nf : ∀ b o, cs.lookup b = some o → b ∉ frs outer) : L2.CX P w outer H s E u s' := by
  obtain ⟨a, B, H', cls, d, e, fl, hok', ub, na, os, ag, hE⟩ := x
  have o' : Outs H' B cs := fun b o z => by
    have hb := cel_at hok (c b o z)
    exact ⟨ub.keep b o hb (unl_in z) (nf b o z), ub.free b o hb (unl_in z)⟩
  have z : cs.lookup a = none := by
    cases z : cs.lookup a with
    | none => rfl
    | some o =>
      have y := fl.2.1
      rw [(o' a o z).1] at y
      cases y
  exact ⟨a, B, lend H' cs, cls, d, e, fl, lend_ok hok' o', ub_in ub c, by rw [lend_out z]; exact na, os, ag, hE⟩
theorem cx_out {outer : List Env} {s s' : Shared} {E : XK} {u : Value} (x : L2.CX P w outer (lend H cs) s (fun cls d H' => Ins H' cs ∧ E cls d (unl H' cs)) u s') (c : Outs H s.heap cs) : L2.CX P w outer H s E u s' := by
  obtain ⟨a, B, H', cls, d, e, fl, hok', ub, na, os, ag, i', hE⟩ := x
  exact ⟨a, B, unl H' cs, cls, d, e, fl, unl_ok hok' i', ub_out ub c i' hok', by rw [unl_out (i'.off na)]; exact na, os, ag, hE⟩
theorem ce_in {outer : List Env} {s s' : Shared} {Q : VK} {u : Value} (x : CE outer P w (unl H cs) s (fun v H' => Q v (lend H' cs)) u s') (hok : HOk P w H s.heap) (c : Ins H cs) (nf : ∀ b o, cs.lookup b = some o → b ∉ frs outer) : CE outer P w H s Q u s' := by
  obtain ⟨v, H', os, bare, un, hok', r, q⟩ := x
  exact ⟨v, lend H' cs, os, bare, un_in un c, lend_ok hok' (outs_after un hok c nf), r, q⟩
theorem ce_out {outer : List Env} {s s' : Shared} {Q : VK} {u : Value} (x : CE outer P w (lend H cs) s (fun v H' => Ins H' cs ∧ Q v (unl H' cs)) u s') (c : Outs H s.heap cs) : CE outer P w H s Q u s' := by
  obtain ⟨v, H', os, bare, un, hok', r, i', q⟩ := x
  exact ⟨v, unl H' cs, os, bare, un_out un c i' hok', unl_ok hok' i', r, q⟩
end
/-! ### a function that is handed on: what stands, and what a call of it does -/
structure AskOk (P : Program) (w : World) (K : PySem.W.Frag) (mg : Str → Option Value) (base : Heap) (CX : CXT) (k : Nat) (f : Addr) (fs : List (Addr × HO)) (sp : Hp → VK → XK → Prop) : Prop where
  fn : ∀ (H : Hp) (h : Heap), HOk P w H h → (∀ p ∈ fs, H p.1 = some p.2) → PySem.W.FnAt f h
  run : ∀ (A : Around) (outer : List Env) (s : Shared) (H : Hp) (Q : VK) (E : XK), Room k A → Env0 P w K mg base A outer s H → (∀ p ∈ fs, H p.1 = some p.2) → sp H Q E → codeAny (model P w) A (.call (.ref f) ⟨[], []⟩) (CR CX outer P w H s Q E) s
def tAsk (P : Program) (w : World) (K : PySem.W.Frag) (mg : Str → Option Value) (base : Heap) (CX : CXT) (k i : Nat) (E : XK) : TE := fun σ H Q => ∃ (f : Addr) (fs : List (Addr × HO)) (sp : Hp → VK → XK → Prop), σ[i]? = some (some (.ref f)) ∧ AskOk P w K mg base CX k f fs sp ∧ (∀ p ∈ fs, H p.1 = some p.2) ∧ sp H Q E
theorem pe_ask {X : Cx} {CX : CXT} {k i : Nat} {E : XK} {a : Str} {p1 p2 : Pos} (hr : Room k X.A) (hx : Passes CX X E) (hN : X.N[i]? = some a) (hv : Vis X.env.scope a) (hd : (a == ("__debug__" : Str)) = false := by decide) (hcd : (a == ("__classdict__" : Str)) = false := by decide) :
    PE X (.Call (.Name a p1) [] [] p2) (tAsk X.prog X.w X.K X.mg X.base CX k i E) := by
  refine ⟨fun pins s σ H Q I h => ?_⟩
  obtain ⟨f, fs, sp, hs, ok, hf, q⟩ := h
  refine wpAny_Call_Name_kw (thn ((pe_var (pos := p1) (i := i) hN hv hd hcd).run pins s σ H (fun v H1 => v = .ref f ∧ H1 = H) I ⟨.ref f, hs, rfl, rfl⟩) fun u s1 ⟨v, H1, I1, r1, q1⟩ => ?_)
  obtain ⟨ev, eH⟩ := q1
  subst ev
  rw [eH] at I1
  obtain rfl : u = Value.ref f := r1
  refine PySem.W.callWith_F0 (ok.fn H _ I1.hok hf) ?_
  refine wpAny_call (codeAny_mono (ok.run X.A X.stack s1 H Q E hr I1.env0 hf q) fun r s' hq => ?_)
  cases r with
  | error e => exact hx pins σ H s1 e s' I1 hq
  | ok fl =>
    cases fl with
    | ret u => exact I1.after hq
    | next => exact False.elim hq
    | brk => exact False.elim hq
    | cont => exact False.elim hq
/-! ### a lambda by its body -/
abbrev lamFd (name qual : Str) (params : Arguments) (body : Expr) (scope : Scope) (cl : List (Str × Addr)) (dV doc pm : Value) (c' : Addr) (ct : Value) : FuncData :=
  { name, qualname := qual, params, body := .expr body, scope, globals := mainGlobals, closure := cl, defaults := dV, kwdefaults := .none, doc, pyModule := pm, annotations := none, code := .ref c', closureTuple := ct, builtins := builtinsNs }
def FunO (f : Addr) (fd : FuncData) : HO := .ext fun h => ∃ (od : Option Addr) (sl : Array (Option Value)), h.get? f = some (⟨.type "function", od, .func fd, sl⟩ : Obj)
open NdefX LamX in
theorem ask_of {P : Program} {w : World} {K : PySem.W.Frag} {mg : Str → Option Value} {base : Heap} {k : Nat} {f c' : Addr} {name qual : Str} {params : Arguments} {body : Expr} {scope : Scope} {cl : List (Str × Addr)} {dV doc pm ct : Value} {cs : List (Addr × Obj)} {N ps fr : List Str} {us : List Value} {vs : List V} {ws : List (Option V)} {fs : List (Addr × HO)} {sp : Hp → VK → XK → Prop}
    (S : NScope N ps fr scope) (m1 : (f, FunO f (lamFd name qual params body scope cl dV doc pm c' ct)) ∈ fs) (m2 : (c', CodeO c' qual) ∈ fs) (m3 : ∀ b o, cs.lookup b = some o → (b, CelO b o) ∈ fs)
    (len : ws.length = fr.length) (inj : ∀ x y c, cl.lookup x = some c → cl.lookup y = some c → x = y) (all : ∀ y c, cl.lookup y = some c → ∃ o v, cs.lookup c = some o ∧ o.data = .cell v)
    (has : ∀ (i : Nat) (y : Str), fr[i]? = some y → ∃ c o, cl.lookup y = some c ∧ cs.lookup c = some o ∧ ∀ v, ws[i]? = some (some v) → ∃ u, L2.RelV v u ∧ o.data = .cell (some u))
    (hbind : ∀ (s : Shared) (H : Hp), HOk P w H s.heap → (∀ p ∈ fs, H p.1 = some p.2) → BindsTo s (lamFd name qual params body scope cl dV doc pm c' ct) ⟨[], []⟩ (ps.zip us)) (hvs : Vals vs us) (hl : vs.length = ps.length)
    (hrun : ∀ (A : Around) (outer : List Env) (s : Shared) (H : Hp) (Q : VK) (E : XK), Room k (A.deeper (envF ⟨name, qual, params, [], scope, cl, c'⟩ f s.heap.objs.size)) → (∀ p ∈ fs, H p.1 = some p.2) → sp H Q E →
      ∃ tb, PE (ncx (L2.CX P w) P w K mg base N ⟨name, qual, params, [], scope, cl, c'⟩ f A outer s (unl H cs) (fun cls d H' => E cls d (lend H' cs))) body tb ∧ tb (startF N vs ws) (unl H cs) (fun v H' => Q v (lend H' cs))) :
    AskOk P w K mg base (L2.CX P w) (k + 1) f fs sp := by
  refine ⟨fun H h hok hf => ?_, fun A outer s H Q E hr e0 hf q => ?_⟩
  · have x : ObjOk P w H h f (FunO f (lamFd name qual params body scope cl dV doc pm c' ct)) := hok f _ (hf _ m1)
    obtain ⟨⟨od, sl, ho⟩, _, _⟩ := x
    exact ⟨_, _, _, _, ho⟩
  · have ins : Ins H cs := fun b o z => hf _ (m3 b o z)
    have nf : ∀ b o, cs.lookup b = some o → b ∉ frs outer := fun b o z hb => by
      have y := e0.frf b hb
      rw [ins b o z] at y
      cases y
    have e1 := env0_unl e0 ins
    have lim : s.heap.NoLimit := e0.mod.nolimit.keeps fun b o e => (e0.bs b o e).1
    have C : CellsAt cl fr ws s.heap (unl H cs) := by
      refine ⟨len, fun y c e => ?_, inj, fun i y e => ?_⟩
      · obtain ⟨o, v, h1, h2⟩ := all y c e
        exact ⟨unl_in h1, v, o, cel_at e0.hok (ins c o h1), h2⟩
      · obtain ⟨c, o, h1, h2, h3⟩ := has i y e
        refine ⟨c, h1, fun v z => ?_⟩
        obtain ⟨u, r, hd⟩ := h3 v z
        exact ⟨u, r, o, cel_at e0.hok (ins c o h2), hd⟩
    have x : ObjOk P w H s.heap f (FunO f (lamFd name qual params body scope cl dV doc pm c' ct)) := e0.hok f _ (hf _ m1)
    obtain ⟨⟨od, sl, ho⟩, _, _⟩ := x
    have hcr := codeO_at e0.hok (hf _ m2)
    obtain ⟨tb, ht, hq⟩ := hrun A outer s H Q E (hr.deeper _) hf q
    refine codeAny_mono (R := CR (L2.CX P w) outer P w (unl H cs) s (fun v H' => Q v (lend H' cs)) (fun cls d H' => E cls d (lend H' cs))) ?_ (fun r s' hq => ?_)
    · refine PySem.W.kla_callFunE hr.depth ho rfl S.co S.gen rfl hcr ?_
      refine hbind s H e0.hok hf _ _ _ _ ?_
      refine wpAny_newFunctionEnv S.nocell (fun ⟨n, _⟩ hy => S.par n (List.of_mem_zip hy).1) (fun h₁ hns hsb => ⟨lim.fresh _ hsb, ?_⟩) S.kind
      show codeAny _ _ (.expr body (envF ⟨name, qual, params, [], scope, cl, c'⟩ f s.heap.objs.size)) _ _
      have kp : ∀ b o, s.heap.get? b = some o → h₁.get? b = some o := fun b o e => hsb.extBut b o (Nat.ne_of_lt (Heap.lt_size e)) (Heap.get?_push_of_some _ e)
      have I : Inv (ncx (L2.CX P w) P w K mg base N ⟨name, qual, params, [], scope, cl, c'⟩ f A outer s (unl H cs) (fun cls d H' => E cls d (lend H' cs))) [] (startF N vs ws) (unl H cs) { s with heap := h₁, toks := s.toks + (ps.zip us).length } :=
        inv_startN (F := ⟨name, qual, params, [], scope, cl, c'⟩) S hr.hd e1 hl hvs C hns kp
      refine PySem.W.kla_codeExpr (wpAny_mono (ht.run [] _ (startF N vs ws) (unl H cs) _ I hq) (fun v s' hs => ?_) fun e s' hs => hs)
      obtain ⟨y, H', J, rv, q⟩ := hs
      exact ⟨y, H', J.os, J.bare, J.base, J.hok, rv, q⟩
    · cases r with
      | error e => exact cx_in hq e0.hok ins nf
      | ok fl =>
        cases fl with
        | ret u => exact ce_in hq e0.hok ins nf
        | next => exact False.elim hq
        | brk => exact False.elim hq
        | cont => exact False.elim hq
/-! ### a lambda is made -/
open NdefX LamX
section
variable {X : Cx} {pins : List (Addr × Obj)} {σ : L2.St} {H : Hp} {s : Shared}
theorem fun_laid {fd : FuncData} {t' : Nat} (I : Inv X pins σ H s) : Inv X pins σ (upd H s.heap.objs.size (FunO s.heap.objs.size fd)) { s with heap := s.heap.push { cls := .type "function", data := .func fd }, toks := t' } := by
  have e : (s.heap.push ({ cls := .type "function", data := .func fd } : Obj)).get? s.heap.objs.size = some ({ cls := .type "function", data := .func fd } : Obj) := Heap.get?_push_size _ rfl
  exact I.laid (fun b u e => Heap.get?_push_of_some _ e) (Nat.le_refl _) ⟨⟨_, _, e⟩, ⟨_, e⟩, fun h1 h2 ⟨od, sl, z⟩ st => ⟨od, sl, st _ z⟩⟩
/-- what is known behind: f is the new lambda, c' its code object; all that was tracked stays, tables may have grown -/
structure Made (H H1 : Hp) (T : List (Addr × Str)) (f c' : Addr) (q : Str) (fd : FuncData) : Prop where
  ext : ExtN H H1
  non : ∀ b, H1 b = none → H b = none
  tabs : Tabs T H1
  new : H f = none
  fn : H1 f = some (FunO f fd)
  code : H1 c' = some (CodeO c' q)
theorem lam_tail {T : List (Addr × Str)} {c P : Addr} {params : Arguments} {body : Expr} {scope : Scope} {pos : Pos} {dV : Value} {E : Value → Shared → Prop} {Q : Value → Shared → Prop} (I : Inv X pins σ H s) (TB : TabB X.base X.mg c P) (hcode : X.env.code = .ref c)
    (hm : (P, X.env.qual ++ "<lambda>") ∈ T) (hu : ∀ p ∈ T, p.1 = P → p.2 = X.env.qual ++ "<lambda>") (hT : Tabs T H) (hfree : ∀ y ∈ scope.names, y.2 = .free → ∃ c, X.env.cells.lookup y.1 = some c)
    (h : ∀ (f c' : Addr) (doc pm ct : Value) (H1 : Hp) (s' : Shared), Inv X pins σ H1 s' → Made H H1 T f c' (X.env.qual ++ "<lambda>") (lamFd "<lambda>" (X.env.qual ++ "<lambda>") params body scope (cloFrom X.env.cells scope.names []) dV doc pm c' ct) → Q (.ref f) s') :
    wpAny (model X.prog X.w) X.A (makeTail "<lambda>" (X.env.qual ++ "<lambda>") params (.expr body) scope X.env dV .none none pos pos.line) Q E s := by
  obtain ⟨ps, hP, ht, ha⟩ := hT _ hm
  have bP : s.heap.BuiltinsAt X.mg P := TB.bm.keeps I.bk
  have hP' : s.heap.get? P = some { cls := .none, data := .fields ps } := I.hok P _ hP
  have glob := I.mod.glob.keeps I.bk
  cases hc : codeAmong pos ps.toList with
  | some cv =>
    obtain ⟨c', rfl, hco⟩ := ha pos cv hc
    refine PySem.W.kdv_makeTailHit (closure_ok hfree) I.ok.glob glob hcode (TB.code.keeps I.bk) hP' ht hc bP fun ct doc h' tk hx hsz => ?_
    have I1 : Inv X pins σ H { s with heap := h', toks := tk } := I.kept hx
    have nF : H h'.objs.size = none := I1.hok.fresh (Nat.le_refl _)
    have up : ∀ b o, H b = some o → upd H h'.objs.size (FunO h'.objs.size (lamFd "<lambda>" (X.env.qual ++ "<lambda>") params body scope (cloFrom X.env.cells scope.names []) dV doc ((X.mg "__name__").getD .none) c' ct)) b = some o := fun b o e => by
      rw [upd_ne (ne_of_none e nF)]
      exact e
    exact h _ c' doc _ ct _ _ (fun_laid I1) ⟨ExtN.of up, fun b e => upd_none e, hT.ext up, nF, upd_same, up _ _ hco⟩
  | none =>
    refine PySem.W.kdv_makeTail (closure_ok hfree) I.ok.glob glob hcode (TB.code.keeps I.bk) hP' ht hc TB.gP bP fun c' ct doc h' tk hx hge hlt hrec htb => ?_
    obtain ⟨_, oc, vs, t, e2, hoc, hd, hv⟩ := hrec
    cases e2
    have nC : H c' = none := I.hok.fresh hge
    have I1 := inv_table (t' := tk) (more := #[rawInt pos.line, rawInt pos.col, .ref c']) (h' := h') I hP (fun b o hb e => hx b o hb e) htb hge ⟨oc, vs, t, hoc, hd, hv⟩
    have nF := I1.hok.fresh (Nat.le_refl _)
    have atC : upd (upd H P (.tbl (ps ++ #[rawInt pos.line, rawInt pos.col, .ref c']))) c' (CodeO c' (X.env.qual ++ "<lambda>")) c' = some (CodeO c' (X.env.qual ++ "<lambda>")) := upd_same
    have eN : ExtN H (upd (upd H P (.tbl (ps ++ #[rawInt pos.line, rawInt pos.col, .ref c']))) c' (CodeO c' (X.env.qual ++ "<lambda>"))) := fun b o e n => by
      have hb : b ≠ P := fun z => by
        rw [z, hP] at e
        exact n ps (Option.some.inj e).symm
      rw [upd_ne (ne_of_none e nC), upd_ne hb]
      exact e
    have T1 : Tabs T (upd (upd H P (.tbl (ps ++ #[rawInt pos.line, rawInt pos.col, .ref c']))) c' (CodeO c' (X.env.qual ++ "<lambda>"))) := fun p hp => by
      by_cases hb : p.1 = P
      · rw [hu p hp hb, hb]
        refine ⟨ps ++ #[rawInt pos.line, rawInt pos.col, .ref c'], by rw [upd_ne (ne_of_none hP nC), upd_same], ?_, fun p' cv hcv => ?_⟩
        · rw [Array.toList_append]
          exact PySem.TriplesOk_snoc _ _ _ _ ht
        · rw [Array.toList_append] at hcv
          rcases among_app _ ht hcv with z | z
          · obtain ⟨c0, e1, e2⟩ := ha p' cv z
            exact ⟨c0, e1, eN _ _ e2 codeO_ne⟩
          · exact ⟨c', z, atC⟩
      · obtain ⟨ps', a1, a2, a3⟩ := hT p hp
        refine ⟨ps', by rw [upd_ne (ne_of_none a1 nC), upd_ne hb]; exact a1, a2, fun p' cv hcv => ?_⟩
        obtain ⟨c0, e1, e2⟩ := a3 p' cv hcv
        exact ⟨c0, e1, eN _ _ e2 codeO_ne⟩
    have up : ∀ b o, upd (upd H P (.tbl (ps ++ #[rawInt pos.line, rawInt pos.col, .ref c']))) c' (CodeO c' (X.env.qual ++ "<lambda>")) b = some o → upd (upd (upd H P (.tbl (ps ++ #[rawInt pos.line, rawInt pos.col, .ref c']))) c' (CodeO c' (X.env.qual ++ "<lambda>"))) h'.objs.size (FunO h'.objs.size (lamFd "<lambda>" (X.env.qual ++ "<lambda>") params body scope (cloFrom X.env.cells scope.names []) dV doc ((X.mg "__name__").getD .none) c' ct)) b = some o := fun b o e => by
      rw [upd_ne (ne_of_none e nF)]
      exact e
    exact h _ c' doc _ ct _ _ (fun_laid I1) ⟨fun b o e n => up b o (eN b o e n), fun b e => upd_none (upd_none (upd_none e)), T1.ext up, I.hok.fresh (Nat.le_trans hge (Nat.le_of_lt hlt)), upd_same, up _ _ atC⟩
/-- what a lambda keeps of its default: nothing, or a pair's first -/
def DefsAt (H : Hp) (dV : Value) : List V → Prop
  | [] => dV = .none
  | ds => ∃ t : Addr, dV = .ref t ∧ H t = some (.tup ds)
/-- the reading of a lambda with these defaults' values, in H -/
def LamQ (T : List (Addr × Str)) (q : Str) (params : Arguments) (body : Expr) (scope : Scope) (cl : List (Str × Addr)) (ds : List V) (H : Hp) (Q : VK) : Prop :=
  Tabs T H ∧ ∀ (f c' : Addr) (dV doc pm ct : Value) (H1 H2 : Hp), (∀ b o, H b = some o → H1 b = some o) → (∀ b, H1 b = none → H b = none) → Made H1 H2 T f c' q (lamFd "<lambda>" q params body scope cl dV doc pm c' ct) → DefsAt H2 dV ds → Q (.ref f) H2
theorem pe_lam0 {T : List (Addr × Str)} {c P : Addr} {params : Arguments} {body : Expr} {scope : Scope} {pos : Pos} (TB : TabB X.base X.mg c P) (hcode : X.env.code = .ref c) (hm : (P, X.env.qual ++ "<lambda>") ∈ T) (hu : ∀ p ∈ T, p.1 = P → p.2 = X.env.qual ++ "<lambda>")
    (hfree : ∀ y ∈ scope.names, y.2 = .free → ∃ c, X.env.cells.lookup y.1 = some c) (hdef : defaultsOf params X.env = ([], [])) :
    PE X (.Lambda params body scope pos) (fun _ H Q => LamQ T (X.env.qual ++ "<lambda>") params body scope (cloFrom X.env.cells scope.names []) [] H Q) := by
  refine ⟨fun pins s σ H Q I h => PySem.W.kla_eval hdef ?_⟩
  rw [makeFunction_eq]
  simp only [List.zip_nil_right, List.filterMap_nil, List.isEmpty_nil, if_true, pure_bind]
  exact lam_tail I TB hcode hm hu h.1 hfree fun f c' doc pm ct H1 s' I1 M => ⟨.ref f, H1, I1, rfl, h.2 f c' .none doc pm ct H H1 (fun _ _ e => e) (fun _ e => e) M rfl⟩
theorem pe_lam1 {T : List (Addr × Str)} {c P : Addr} {params : Arguments} {e : Expr} {te : TE} {body : Expr} {scope : Scope} {pos : Pos} (TB : TabB X.base X.mg c P) (hcode : X.env.code = .ref c) (hm : (P, X.env.qual ++ "<lambda>") ∈ T) (hu : ∀ p ∈ T, p.1 = P → p.2 = X.env.qual ++ "<lambda>")
    (hfree : ∀ y ∈ scope.names, y.2 = .free → ∃ c, X.env.cells.lookup y.1 = some c) (hd : params.defaults = [e]) (hk0 : params.kw_defaults = []) (he : PE X e te) :
    PE X (.Lambda params body scope pos) (fun σ H Q => te σ H fun x H1 => LamQ T (X.env.qual ++ "<lambda>") params body scope (cloFrom X.env.cells scope.names []) [x] H1 Q) := by
  refine ⟨fun pins s σ H Q I h => PySem.W.kdv_lam (by rw [hd]; rfl) hk0 ?_⟩
  rw [hd]
  refine PySem.W.kdv_all1 (thn (he.run pins s σ H _ I h) fun v s1 ⟨x, H1, I1, r1, q⟩ => PySem.W.kdv_all0 ?_)
  rw [makeFunction_eq]
  simp only [List.zip_nil_right, List.filterMap_nil, List.isEmpty_nil, List.isEmpty_cons, Bool.false_eq_true, if_false, if_true, pure_bind]
  refine wpAny_bind (wpAny_newTextTuple ?_)
  have hn : H1 s1.heap.objs.size = none := I1.hok.fresh (Nat.le_refl _)
  have ht : (s1.heap.push ({ cls := .type "tuple", data := .seq [v].toArray } : Obj)).get? s1.heap.objs.size = some ({ cls := .type "tuple", data := .seq [v].toArray } : Obj) := Heap.get?_push_size _ rfl
  have I2 : Inv X pins σ (upd H1 s1.heap.objs.size (.tup [x])) { s1 with heap := s1.heap.push ({ cls := .type "tuple", data := .seq [v].toArray } : Obj), toks := s1.toks } :=
    I1.laid (fun b u e => Heap.get?_push_of_some _ e) (Nat.le_refl _) ⟨by show 1 ≤ sizeLine; decide, [v], .cons r1 .nil, _, ht, rfl, _, rfl⟩
  have up : ∀ b o, H1 b = some o → upd H1 s1.heap.objs.size (.tup [x]) b = some o := fun b o e => by
    rw [upd_ne (ne_of_none e hn)]
    exact e
  exact lam_tail I2 TB hcode hm hu (q.1.ext up) hfree fun f c' doc pm ct H2 s' I3 M => ⟨.ref f, H2, I3, rfl, q.2 f c' _ doc pm ct _ H2 up (fun b e => upd_none e) M ⟨_, rfl, M.ext _ _ upd_same (fun ps z => by cases z)⟩⟩
/-! ### a call to which the cells are lent -/
/-- cs: cells of one's own, those of ys among them, with what the names hold -/
structure CellV (X : Cx) (σ : L2.St) (ys : List Str) (cs : List (Addr × Obj)) : Prop where
  own : ∀ b o, cs.lookup b = some o → ∃ y, X.env.cells.lookup y = some b ∧ X.fn y = true
  val : ∀ y ∈ ys, ∃ (c : Addr) (o : Obj) (i : Nat) (v : V) (u : Value), X.env.cells.lookup y = some c ∧ cs.lookup c = some o ∧ X.N[i]? = some y ∧ σ[i]? = some (some v) ∧ L2.RelV v u ∧ o.data = .cell (some u)
theorem cellv_of (I : Inv X pins σ H s) : ∀ ys : List Str, (∀ y ∈ ys, ∃ (i : Nat) (v : V), X.N[i]? = some y ∧ σ[i]? = some (some v) ∧ X.env.scope.names.lookup y = some .cell ∧ X.fn y = true) → ∃ cs, CellV X σ ys cs ∧ Outs H s.heap cs
  | [], _ => ⟨[], ⟨(fun _ _ e => by cases e), fun _ m => nomatch m⟩, fun _ _ e => by cases e⟩
  | y :: ys, h => by
    obtain ⟨cs, V1, O1⟩ := cellv_of I ys fun z m => h z (List.mem_cons_of_mem _ m)
    obtain ⟨i, v, hN, hv, hk, hf⟩ := h y List.mem_cons_self
    obtain ⟨m, _, hl⟩ := I.loc
    obtain ⟨u, r, q⟩ := hl i y v hN hv (.inr (.inl hk))
    have hk' : X.env.kindOf y = some .cell := hk
    rcases q with ⟨k', _⟩ | ⟨_, c, hc, o, ho, hd⟩
    · rw [show X.env.scope.names.lookup y = some .local from k'] at hk
      cases hk
    · have n : H c = none := I.freeC y c hc
      have at_ : ∀ b, ((c, o) :: cs).lookup b = if b = c then some o else cs.lookup b := fun b => by
        by_cases e : b = c
        · subst e
          simp [List.lookup]
        · have e' : (b == c) = false := by simpa using e
          rw [if_neg e]
          simp [List.lookup, e']
      refine ⟨(c, o) :: cs, ⟨fun b o' e => ?_, fun z mz => ?_⟩, fun b o' e => ?_⟩
      · rw [at_] at e
        split at e
        · rename_i eb
          rw [eb]
          exact ⟨y, hc, hf⟩
        · exact V1.own b o' e
      · rcases List.mem_cons.mp mz with e | mz
        · rw [e]
          exact ⟨c, o, i, v, u, hc, by rw [at_, if_pos rfl], hN, hv, r, hd⟩
        · obtain ⟨c2, o2, i2, v2, u2, h1, h2, h3, h4, h5, h6⟩ := V1.val z mz
          refine ⟨c2, o2, i2, v2, u2, h1, ?_, h3, h4, h5, h6⟩
          rw [at_]
          split
          · rename_i eb
            have z1 := (O1 c2 o2 h2).1
            rw [eb, ho] at z1
            rw [Option.some.inj z1]
          · exact h2
      · rw [at_] at e
        split at e
        · rename_i eb
          rw [← Option.some.inj e, eb]
          exact ⟨ho, n⟩
        · exact O1 b o' e
/-- the reading of a call to which the cells of ys are lent -/
def tCallL (X : Cx) (ys : List Str) (sp : Sp) (dvs : List V) (t : TA) : TE := fun σ H Q => t σ H fun vs H1 => (∀ y ∈ ys, ∃ (i : Nat) (v : V), X.N[i]? = some y ∧ σ[i]? = some (some v) ∧ X.env.scope.names.lookup y = some .cell ∧ X.fn y = true) ∧
  ∀ cs, CellV X σ ys cs → (∀ b o, cs.lookup b = some o → H1 b = none) → sp (vs ++ dvs) (lend H1 cs) (fun v H2 => Ins H2 cs ∧ Q v (unl H2 cs)) C8.E0
theorem pe_callL {k : Nat} {f : Addr} {fd : FuncData} {ps : List Str} {sp : Sp} {dvs : List V} {ds : List Value} {x : Str} {p pos : Pos} {e : Expr} {es : List Expr} {t : TA} (ys : List Str) (F : FnOk X.prog X.w X.K X.mg X.base C8.CX0 k f fd ps sp) (hr : Room k X.A) (hg : Gl X x) (hm : X.mg x = some (.ref f)) (hk : PySem.W.keepIn X.K (.ref f) = true) (hb : Binds X.K fd ps ds) (hd : Vals dvs ds)
    (ha : PA X (e :: es) t) (hdb : (x == ("__debug__" : Str)) = false := by decide) (he : starEach (e :: es) X.env = (false, eval e X.env) :: starEach es X.env := by rfl) (hpl : (backTo pos (starEach es X.env)).any (·.1) = false := by rfl) :
    PE X (.Call (.Name x p) (e :: es) [] pos) (tCallL X ys sp dvs t) := by
  refine ⟨fun pins s σ H Q I h => ?_⟩
  refine wpAny_Call_Name_kw (ld_glob I hg hm ?_ hdb)
  refine PySem.W.callWith_K (h₀ := X.base) I.ok.mod.kin hk (thn (ha.run pos pins s σ H _ I h) fun us s1 ⟨vs, H1, I1, r, hy, q⟩ => ⟨I1.kIn, ?_⟩) he hpl
  obtain ⟨cs, V1, O1⟩ := cellv_of I1 ys hy
  have q1 := q cs V1 fun b o z => (O1 b o z).2
  have big : ∀ b o, cs.lookup b = some o → X.s_0.heap.objs.size ≤ b ∧ b ≠ X.env.locals := fun b o z => by
    obtain ⟨y, hc, hf⟩ := V1.own b o z
    exact ⟨I1.ok.cab y b hf hc, I1.cne y b hc⟩
  have e1 := env0_lend I1.env0 O1 (fun b o z => by
    cases e : X.base.get? b with
    | none => rfl
    | some v => exact absurd (Nat.lt_of_lt_of_le (Heap.lt_size e) (Nat.le_trans I1.ok.bsz (big b o z).1)) (Nat.lt_irrefl _)) (fun b o z hb => by
    rcases List.mem_cons.mp (I1.stkSub b hb) with e | hb
    · exact (big b o z).2 e
    · obtain ⟨_, v, ho, _⟩ := I1.ok.funs.mem hb
      exact absurd (Nat.lt_of_lt_of_le (Heap.lt_size ho) (big b o z).1) (Nat.lt_irrefl _))
  have r2 : Vals (vs ++ dvs) (us ++ ds) := r.append hd
  have hl : (us ++ ds).length = ps.length := by
    rw [← r2.length]
    exact F.len _ _ _ _ q1
  refine wpAny_call (codeAny_mono (F.run X.A X.stack s1 (lend H1 cs) ⟨us, []⟩ (us ++ ds) (vs ++ dvs) _ _ hr e1 (hb s1 us I1.kIn hl) r2 q1) fun r s' hq => ?_)
  cases r with
  | error e => exact hq.elim
  | ok fl =>
    cases fl with
    | ret u => exact I1.after (ce_out hq O1)
    | next => exact False.elim hq
    | brk => exact False.elim hq
    | cont => exact False.elim hq
end
end Lend
namespace Lend
open PySem PySem.Spec PyProof.Rows L2
/-! ### a caught error handed on: the reading of its fields -/
/-- the reading of e.n -/
def tErf (K : PySem.W.Frag) (n : Str) (te : TE) : TE := fun σ H Q => te σ H fun x H1 => ∃ (a C d : Addr) (fs : List (Str × V)) (v : V), x = .ref a ∧ XfC K C ∧ PySem.W.findIn K (.ref C) n = some none ∧ (∃ oe vs, H1 a = some (CelO a oe) ∧ Zc (.ref C) (some d) oe ∧ oe.data = .fields vs) ∧ H1 d = some (.xd fs) ∧ fs.lookup n = some v ∧ Q v H1
theorem pe_erf {X : Cx} {e : Expr} {te : TE} {pos : Pos} {n : Str} (he : PE X e te) (hb : attributeBase e n X.env (eval e X.env) = eval e X.env := by rfl) : PE X (.Attribute e n pos) (tErf X.K n te) := by
  refine ⟨fun pins s σ H Q I h => attr_of hb (thn (he.run pins s σ H _ I h) fun u s1 hh => ?_)⟩
  obtain ⟨x, H1, I1, rx, a, C, d, fs, v, rfl, T, hno, ⟨oe, vs, ha, hz, hf⟩, hd, l, q⟩ := hh
  obtain rfl : u = Value.ref a := rx
  have he' := cel_at I1.hok ha
  have xd : ObjOk X.prog X.w H1 s1.heap d (.xd fs) := I1.hok d _ hd
  obtain ⟨mA, hns, hr⟩ := xd
  obtain ⟨od, ho, hl⟩ := lookIn_ns hns
  have hv : RelO (some v) (mA n) := by
    have z := hr n
    rw [l] at z
    exact z
  obtain ⟨w, hw, rw_⟩ := RelO.some_of (v := v) (o := mA n) hv
  have J : PySem.W.InstAt s1.heap a oe C (some od) := ⟨he', hz.1, by unfold PySem.W.notCls; rw [hf] <;> rfl, by rw [hz.2]; exact ho⟩
  exact HandSPX.exc_get I1.kIn J T.ga T.gg T.exC (PySem.W.findObj_own T.hdC hno rfl (by rw [hl, hw])) (handed_of rw_) ⟨v, H1, I1.tok _, rw_, q⟩
/-- the reading of a call to which a pinned object is lent -/
def tCallP (a : Addr) (oe : Obj) (sp : Sp) (dvs : List V) (t : TA) : TE := fun σ H Q => t σ H fun vs H1 => H1 a = none → sp (vs ++ dvs) (lend H1 [(a, oe)]) (fun v H2 => Ins H2 [(a, oe)] ∧ Q v (unl H2 [(a, oe)])) C8.E0
theorem pe_callP {X : Cx} {k : Nat} {f a : Addr} {oe : Obj} {fd : FuncData} {ps : List Str} {sp : Sp} {dvs : List V} {ds : List Value} {x : Str} {p pos : Pos} {e : Expr} {es : List Expr} {t : TA} (hp : (a, oe) ∈ X.pn) (nB : X.base.get? a = none) (F : FnOk X.prog X.w X.K X.mg X.base C8.CX0 k f fd ps sp) (hr : Room k X.A) (hg : Gl X x) (hm : X.mg x = some (.ref f)) (hk : PySem.W.keepIn X.K (.ref f) = true) (hb : Binds X.K fd ps ds) (hd : Vals dvs ds)
    (ha : PA X (e :: es) t) (hdb : (x == ("__debug__" : Str)) = false := by decide) (he : starEach (e :: es) X.env = (false, eval e X.env) :: starEach es X.env := by rfl) (hpl : (backTo pos (starEach es X.env)).any (·.1) = false := by rfl) :
    PE X (.Call (.Name x p) (e :: es) [] pos) (tCallP a oe sp dvs t) := by
  refine ⟨fun pins s σ H Q I h => ?_⟩
  refine wpAny_Call_Name_kw (ld_glob I hg hm ?_ hdb)
  refine PySem.W.callWith_K (h₀ := X.base) I.ok.mod.kin hk (thn (ha.run pos pins s σ H _ I h) fun us s1 ⟨vs, H1, I1, r, q⟩ => ⟨I1.kIn, ?_⟩) he hpl
  obtain ⟨h1, h2, h3, h4, _⟩ := I1.pin (a, oe) (List.mem_append_left _ hp)
  have one : ∀ b o, ([(a, oe)] : List (Addr × Obj)).lookup b = some o → b = a ∧ o = oe := fun b o z => by
    simp only [List.lookup] at z
    split at z
    · rename_i w
      exact ⟨eq_of_beq w, (Option.some.inj z).symm⟩
    · cases z
  have O1 : Outs H1 s1.heap [(a, oe)] := fun b o z => by
    obtain ⟨rfl, rfl⟩ := one b o z
    exact ⟨h1, h2⟩
  have e1 := env0_lend I1.env0 O1 (fun b o z => by
    obtain ⟨rfl, rfl⟩ := one b o z
    exact nB) (fun b o z hb => by
    obtain ⟨rfl, rfl⟩ := one b o z
    rcases List.mem_cons.mp (I1.stkSub _ hb) with e | hb
    · exact h3 e
    · exact h4 hb)
  have q1 := q h2
  have r2 : Vals (vs ++ dvs) (us ++ ds) := r.append hd
  have hl : (us ++ ds).length = ps.length := by
    rw [← r2.length]
    exact F.len _ _ _ _ q1
  refine wpAny_call (codeAny_mono (F.run X.A X.stack s1 (lend H1 [(a, oe)]) ⟨us, []⟩ (us ++ ds) (vs ++ dvs) _ _ hr e1 (hb s1 us I1.kIn hl) r2 q1) fun r s' hq => ?_)
  cases r with
  | error e => exact hq.elim
  | ok fl =>
    cases fl with
    | ret u => exact I1.after (ce_out hq O1)
    | next => exact False.elim hq
    | brk => exact False.elim hq
    | cont => exact False.elim hq
end Lend
namespace Kk
open PySem L2 PyProof.Rows

end Kk
namespace Lend
open PySem PySem.Spec PyProof.Rows L2
/-! ### try: .. except (A, B) as n: .. -/
theorem fly_more {B h h' : Heap} {l : List Env} {e : Addr} {Z : Obj → Prop} (f : HandSPX.FlyingZ B l e Z h) (k : ∀ b o, h.get? b = some o → h'.get? b = some o) : HandSPX.FlyingZ B l e Z h' := by
  obtain ⟨f1, f2, f3, oe, vs, T, oT, ts, a1, a2, a3, a4, a5, a6, a7, a8, a9⟩ := f
  exact ⟨fun b o e => k b o (f1 b o e), f2, Heap.FunFrames.of_keeps (fun b o e _ => ⟨o, k b o e, rfl⟩) f3, oe, vs, T, oT, ts, k _ _ a1, a2, a3, a4, a5, a6, k _ _ a7, a8, a9⟩
/-- what the clause wishes of an exception of the body: it is one of both; then the suite with it at slot i -/
def wTup (K : PySem.W.Frag) (c1 c2 : Value) (i : Nat) (ts : Addr → Obj → Value → Option Addr → TS) (D : Ends) : WX := fun cls d σ H => PySem.W.exmAny K cls [c1, c2] = some true ∧
  ∀ a oe, H a = none → ts a oe cls d { nx := fun σ' H' => D.nx (σ'.set i none) H', rt := D.rt, bk := fun σ' H' => D.bk (σ'.set i none) H', ct := fun σ' H' => D.ct (σ'.set i none) H' } (σ.set i (some (.ref a))) H
section
variable {X : Cx} {x1 x2 n : Str} {c1 c2 : Value} {i : Nat} {body suite : List Stmt} {b₀ : Stmt} {q1 q2 tp pos pos' : Pos} {kk : Nat} {tb : WX → TS} {ts : Addr → Obj → Value → Option Addr → TS}
theorem named {x : Str} {c : Value} {q : Pos} {pins : List (Addr × Obj)} {σ : L2.St} {H : Hp} {s : Shared} {Q : Value → Shared → Prop} {E : Value → Shared → Prop} {a : Addr} {pn : List (Addr × Obj)} (hc : Names X x c) (S : Inv (X.suite a pn) pins σ H s) (h : Q c s) :
    wpAny (model X.prog X.w) (X.A.mark (some (.ref a))) (eval (.Name x q) X.env) Q E s := by
  obtain ⟨hg, hd, hm | ⟨hm, hv, hn⟩⟩ := hc
  · exact ld_glob (X := X.suite a pn) S hg hm h hd
  · exact ld_blt (X := X.suite a pn) S hg hm hv h hn hd
theorem ps_try_tup (hs : X.stack = X.env :: X.outer) (hf : X.env.frame = some X.env.locals) (hN : X.N.Nodup) (hi : X.N[i]? = some n) (hln : X.env.kindOf n = some .local) (hc1 : Names X x1 c1) (hc2 : Names X x2 c2)
    (hb : ∀ (W : WX) (pn : List (Addr × Obj)) (xe : Value → Shared → Prop), Takes (X.tr pn xe) W → PassesOwn (model X.prog X.w) X.A X.env xe → PSs (X.tr pn xe) body (tb W))
    (hsu : ∀ (a : Addr) (oe : Obj) (cls : Value) (d : Option Addr) (pn : List (Addr × Obj)), Zc cls d oe → (∃ vs, oe.data = .fields vs) → X.base.get? a = none → PSs (X.suite a ((a, oe) :: pn)) (b₀ :: suite) (ts a oe cls d)) :
    PS X (.Try body [.ExceptHandler (some (.Tuple [.Name x1 q1, .Name x2 q2] kk tp)) (some n) (b₀ :: suite) pos'] [] [] pos) (fun D σ H => tb (wTup X.K c1 c2 i ts D) D σ H) := by
  refine ⟨fun pins s σ H D I h => wpAny_Try_except ?_⟩
  have ok := I.ok
  have over : X.A.frames = some (X.env :: X.outer) := ok.frames.trans (congrArg some hs)
  refine wpAny_mono ((hb (wTup X.K c1 c2 i ts D) (X.pn ++ pins) _ (fun u s' xx => ?_) PassesOwn.looking).run [] s σ H D (I.toTry _) h) (fun f s1 hsp => ?_) (fun e s1 he => he)
  · obtain ⟨a, B, sI, pins', σ', H', cls, d, rfl, J', nb, up, sky, na, os, ag, hm, go⟩ := xx
    have J : Inv X pins σ' H' sI := J'.ofTry ok
    refine Sky.land Zc.steady over hf (hs ▸ sky) fun h3 fl3 up3 => ?_
    have J3 : Inv X pins σ' H' { s' with heap := h3 } := J.landed nb fl3.1 (up.trans up3) os ag
    have apart : ∀ b ∈ frs (X.env :: X.outer), b ≠ a := fun b hb e => by
      obtain ⟨oe, vs, he, _, hd⟩ := fl3.there
      obtain ⟨_, o, ho, hn⟩ := fl3.2.2.1.mem hb
      rw [e, he] at ho
      exact hn vs (Option.some.inj ho ▸ hd)
    have nL : a ≠ X.env.locals := fun e => apart _ (List.mem_filterMap.mpr ⟨X.env, List.mem_cons_self, hf⟩) e.symm
    have nF : a ∉ X.fs := fun hm => by
      obtain ⟨e, he, q⟩ := List.mem_filterMap.mp hm
      exact apart a (List.mem_filterMap.mpr ⟨e, List.mem_cons_of_mem _ he, q⟩) rfl
    have nB : X.base.get? a = none := by
      cases e : X.base.get? a with
      | none => rfl
      | some o =>
        have z := nb a o (J.bs a o e).1 (by rw [hs]; exact fun hb => apart a hb rfl)
        rw [fl3.2.1] at z
        cases z
    obtain ⟨oe3, vs3, he3, hz3, hd3⟩ := fl3.there
    have S3 := J3.suite he3 hd3 na nL nF
    refine wpAny_handleBy_cons (codeAny_handlers_test (Tuple_ ?_)) (by intro q; cases q)
    show wpAny _ _ (spliced [(false, eval (.Name x1 q1) X.env), (false, eval (.Name x2 q2) X.env)]) _ _ _
    refine Calls.spliced_cons (named hc1 S3 (Calls.spliced_cons (named hc2 S3 (Calls.spliced_nil (wpAny_newTuple ?_)))))
    have kp : ∀ b o, h3.get? b = some o → (h3.push ({ cls := .type "tuple", data := .seq [c1, c2].toArray } : Obj)).get? b = some o := fun b o e => Heap.get?_push_of_some _ e
    have LT : PySem.W.Looks (model X.prog X.w) (h3.push ({ cls := .type "tuple", data := .seq [c1, c2].toArray } : Obj)) (typeOf (.ref a)) cls := fun A Q E s k q => wpAny_typeOf_ref (k _ _ (kp _ _ he3)) (by rw [hz3.1]; exact q)
    refine (PySem.W.exm_tup2 (M := model X.prog X.w) (J3.kIn.keeps kp) LT (Heap.get?_push_size _ rfl) hm).here ?_
    refine codeAny_handlers_suite_as (HandSPX.lands_againZ (fly_more fl3 kp) fun h4 fl4 up4 => ?_)
    have up34 : h3.UpToSlots h4 := fun b o e hn => up4 b o (kp b o e) hn
    have J4 : Inv X pins σ' H' { s' with heap := h4 } := J.landed nb fl4.1 ((up.trans up3).trans up34) os ag
    obtain ⟨oe4, vs4, he4, hz4, hd4⟩ := fl4.there
    refine store_ok (X := X.suite a ((a, oe4) :: (X.pn ++ pins))) (v := .ref a) (J4.suite he4 hd4 na nL nF) hN hi (.inl hln) rfl (fun s5 S5 => ?_) (.inr hln)
    refine wpAny_mono ((hsu a oe4 cls d (X.pn ++ pins) hz4 ⟨_, hd4⟩ nB).run [] s5 _ H' _ S5 (go a oe4 na)) (fun f s6 hsp => ?_) (fun _ _ z => False.elim z)
    have away : ∀ {σ6 : L2.St} {H6 : Hp} {Q : Shared → Prop}, Inv (X.suite a ((a, oe4) :: (X.pn ++ pins))) [] σ6 H6 s6 → (∀ s7, Inv X pins (σ6.set i none) H6 s7 → Q s7) →
        wpAny (model X.prog X.w) X.A (do bindName X.env n .none; unbindBehindTheSuite X.env n pos') (fun _ s7 => Q s7) X.xe s6 := fun S6 hq => gone_ok (S6.unsuite ok) hN hi hln hq
    cases f with
    | next =>
      obtain ⟨_, _, S6, q6⟩ := hsp
      exact away S6 fun _ J7 => ⟨_, _, J7, q6⟩
    | brk =>
      obtain ⟨_, _, S6, q6⟩ := hsp
      exact away S6 fun _ J7 => ⟨_, _, J7, q6⟩
    | cont =>
      obtain ⟨_, _, S6, q6⟩ := hsp
      exact away S6 fun _ J7 => ⟨_, _, J7, q6⟩
    | ret u =>
      obtain ⟨_, _, _, S6, r6, q6⟩ := hsp
      exact away S6 fun _ J7 => ⟨_, _, _, J7, r6, q6⟩
  · cases f with
    | next =>
      obtain ⟨_, _, J', q⟩ := hsp
      exact wpAny_execs_nil ⟨_, _, J'.ofTry ok, q⟩
    | brk =>
      obtain ⟨_, _, J', q⟩ := hsp
      exact ⟨_, _, J'.ofTry ok, q⟩
    | cont =>
      obtain ⟨_, _, J', q⟩ := hsp
      exact ⟨_, _, J'.ofTry ok, q⟩
    | ret u =>
      obtain ⟨_, _, _, J', r, q⟩ := hsp
      exact ⟨_, _, _, J'.ofTry ok, r, q⟩
end
end Lend
namespace Kk
open PySem L2 PyProof.Rows

end Kk
namespace LendN
open PySem PySem.Spec PyProof.Rows L2
/-! ### try: .. except (A, B) as n: .., the errors' context told -/
/-- what the clause wishes of an exception of the body: it is one of both; then the suite with it at slot i -/
def wTup (K : PySem.W.Frag) (c1 c2 : Value) (i : Nat) (ts : Addr → Obj → Value → Option Addr → TS) (D : Ends) : WX := fun cls d σ H => PySem.W.exmAny K cls [c1, c2] = some true ∧
  ∀ a oe, H a = none → ts a oe cls d { nx := fun σ' H' => D.nx (σ'.set i none) H', rt := D.rt, bk := fun σ' H' => D.bk (σ'.set i none) H', ct := fun σ' H' => D.ct (σ'.set i none) H' } (σ.set i (some (.ref a))) H
section
variable {X : Cx} {x1 x2 n : Str} {c1 c2 : Value} {i : Nat} {body suite : List Stmt} {b₀ : Stmt} {q1 q2 tp pos pos' : Pos} {kk : Nat} {tb : WX → TS} {ts : Addr → Obj → Value → Option Addr → TS}
theorem named {x : Str} {c : Value} {q : Pos} {pins : List (Addr × Obj)} {σ : L2.St} {H : Hp} {s : Shared} {Q : Value → Shared → Prop} {E : Value → Shared → Prop} {a : Addr} {pn : List (Addr × Obj)} (hc : Names X x c) (S : Inv (X.suite a pn) pins σ H s) (h : Q c s) :
    wpAny (model X.prog X.w) (X.A.mark (some (.ref a))) (eval (.Name x q) X.env) Q E s := by
  obtain ⟨hg, hd, hm | ⟨hm, hv, hn⟩⟩ := hc
  · exact ld_glob (X := X.suite a pn) S hg hm h hd
  · exact ld_blt (X := X.suite a pn) S hg hm hv h hn hd
theorem ps_try_tup (hs : X.stack = X.env :: X.outer) (hf : X.env.frame = some X.env.locals) (hN : X.N.Nodup) (hi : X.N[i]? = some n) (hln : X.env.kindOf n = some .local) (hc1 : Names X x1 c1) (hc2 : Names X x2 c2)
    (hb : ∀ (W : WX) (pn : List (Addr × Obj)) (xe : Value → Shared → Prop), L2N.Takes (X.tr pn xe) W → PassesOwn (model X.prog X.w) X.A X.env xe → PSs (X.tr pn xe) body (tb W))
    (hsu : ∀ (a : Addr) (oe : Obj) (cls : Value) (d : Option Addr) (pn : List (Addr × Obj)), L2N.Zn cls d oe → (∃ vs, oe.data = .fields vs) → X.base.get? a = none → PSs (X.suite a ((a, oe) :: pn)) (b₀ :: suite) (ts a oe cls d)) :
    PS X (.Try body [.ExceptHandler (some (.Tuple [.Name x1 q1, .Name x2 q2] kk tp)) (some n) (b₀ :: suite) pos'] [] [] pos) (fun D σ H => tb (wTup X.K c1 c2 i ts D) D σ H) := by
  refine ⟨fun pins s σ H D I h => wpAny_Try_except ?_⟩
  have ok := I.ok
  have over : X.A.frames = some (X.env :: X.outer) := ok.frames.trans (congrArg some hs)
  refine wpAny_mono ((hb (wTup X.K c1 c2 i ts D) (X.pn ++ pins) _ (fun u s' xx => ?_) PassesOwn.looking).run [] s σ H D (I.toTry _) h) (fun f s1 hsp => ?_) (fun e s1 he => he)
  · obtain ⟨a, B, sI, pins', σ', H', cls, d, rfl, J', nb, up, sky, na, os, ag, hm, go⟩ := xx
    have J : Inv X pins σ' H' sI := J'.ofTry ok
    refine L2N.Sky.land L2N.Zn.steady over hf (hs ▸ sky) fun h3 fl3 up3 => ?_
    have J3 : Inv X pins σ' H' { s' with heap := h3 } := J.landed nb fl3.1 (up.trans up3) os ag
    have apart : ∀ b ∈ frs (X.env :: X.outer), b ≠ a := fun b hb e => by
      obtain ⟨oe, vs, he, _, hd⟩ := fl3.there
      obtain ⟨_, o, ho, hn⟩ := fl3.2.2.1.mem hb
      rw [e, he] at ho
      exact hn vs (Option.some.inj ho ▸ hd)
    have nL : a ≠ X.env.locals := fun e => apart _ (List.mem_filterMap.mpr ⟨X.env, List.mem_cons_self, hf⟩) e.symm
    have nF : a ∉ X.fs := fun hm => by
      obtain ⟨e, he, q⟩ := List.mem_filterMap.mp hm
      exact apart a (List.mem_filterMap.mpr ⟨e, List.mem_cons_of_mem _ he, q⟩) rfl
    have nB : X.base.get? a = none := by
      cases e : X.base.get? a with
      | none => rfl
      | some o =>
        have z := nb a o (J.bs a o e).1 (by rw [hs]; exact fun hb => apart a hb rfl)
        rw [fl3.2.1] at z
        cases z
    obtain ⟨oe3, vs3, he3, hz3, hd3⟩ := fl3.there
    have S3 := J3.suite he3 hd3 na nL nF
    refine wpAny_handleBy_cons (codeAny_handlers_test (Tuple_ ?_)) (by intro q; cases q)
    show wpAny _ _ (spliced [(false, eval (.Name x1 q1) X.env), (false, eval (.Name x2 q2) X.env)]) _ _ _
    refine Calls.spliced_cons (named hc1 S3 (Calls.spliced_cons (named hc2 S3 (Calls.spliced_nil (wpAny_newTuple ?_)))))
    have kp : ∀ b o, h3.get? b = some o → (h3.push ({ cls := .type "tuple", data := .seq [c1, c2].toArray } : Obj)).get? b = some o := fun b o e => Heap.get?_push_of_some _ e
    have LT : PySem.W.Looks (model X.prog X.w) (h3.push ({ cls := .type "tuple", data := .seq [c1, c2].toArray } : Obj)) (typeOf (.ref a)) cls := fun A Q E s k q => wpAny_typeOf_ref (k _ _ (kp _ _ he3)) (by rw [hz3.1]; exact q)
    refine (PySem.W.exm_tup2 (M := model X.prog X.w) (J3.kIn.keeps kp) LT (Heap.get?_push_size _ rfl) hm).here ?_
    refine codeAny_handlers_suite_as (HandSPX.lands_againZ (Lend.fly_more fl3 kp) fun h4 fl4 up4 => ?_)
    have up34 : h3.UpToSlots h4 := fun b o e hn => up4 b o (kp b o e) hn
    have J4 : Inv X pins σ' H' { s' with heap := h4 } := J.landed nb fl4.1 ((up.trans up3).trans up34) os ag
    obtain ⟨oe4, vs4, he4, hz4, hd4⟩ := fl4.there
    refine store_ok (X := X.suite a ((a, oe4) :: (X.pn ++ pins))) (v := .ref a) (J4.suite he4 hd4 na nL nF) hN hi (.inl hln) rfl (fun s5 S5 => ?_) (.inr hln)
    refine wpAny_mono ((hsu a oe4 cls d (X.pn ++ pins) hz4 ⟨_, hd4⟩ nB).run [] s5 _ H' _ S5 (go a oe4 na)) (fun f s6 hsp => ?_) (fun _ _ z => False.elim z)
    have away : ∀ {σ6 : L2.St} {H6 : Hp} {Q : Shared → Prop}, Inv (X.suite a ((a, oe4) :: (X.pn ++ pins))) [] σ6 H6 s6 → (∀ s7, Inv X pins (σ6.set i none) H6 s7 → Q s7) →
        wpAny (model X.prog X.w) X.A (do bindName X.env n .none; unbindBehindTheSuite X.env n pos') (fun _ s7 => Q s7) X.xe s6 := fun S6 hq => gone_ok (S6.unsuite ok) hN hi hln hq
    cases f with
    | next =>
      obtain ⟨_, _, S6, q6⟩ := hsp
      exact away S6 fun _ J7 => ⟨_, _, J7, q6⟩
    | brk =>
      obtain ⟨_, _, S6, q6⟩ := hsp
      exact away S6 fun _ J7 => ⟨_, _, J7, q6⟩
    | cont =>
      obtain ⟨_, _, S6, q6⟩ := hsp
      exact away S6 fun _ J7 => ⟨_, _, J7, q6⟩
    | ret u =>
      obtain ⟨_, _, _, S6, r6, q6⟩ := hsp
      exact away S6 fun _ J7 => ⟨_, _, _, J7, r6, q6⟩
  · cases f with
    | next =>
      obtain ⟨_, _, J', q⟩ := hsp
      exact wpAny_execs_nil ⟨_, _, J'.ofTry ok, q⟩
    | brk =>
      obtain ⟨_, _, J', q⟩ := hsp
      exact ⟨_, _, J'.ofTry ok, q⟩
    | cont =>
      obtain ⟨_, _, J', q⟩ := hsp
      exact ⟨_, _, J'.ofTry ok, q⟩
    | ret u =>
      obtain ⟨_, _, _, J', r, q⟩ := hsp
      exact ⟨_, _, _, J'.ofTry ok, r, q⟩
end
end LendN
namespace Kk
open PySem L2 PyProof.Rows

end Kk
namespace LendN
open PySem PySem.Spec PyProof.Rows L2 Lend
/-! ### errors through lent cells, the errors' context told -/
section
variable {P : Program} {w : World} {H H' : Hp} {h h' : Heap} {cs : List (Addr × Obj)} {fs : List Addr} {b : Addr} {o : Obj}
/-- nothing is told at the cells -/
def Offs (H : Hp) (cs : List (Addr × Obj)) : Prop := ∀ b o, cs.lookup b = some o → H b = none
theorem cx_in {outer : List Env} {s s' : Shared} {E : XK} {u : Value} (x : L2N.CX P w outer (unl H cs) s (fun cls d H' => Offs H' cs → E cls d (lend H' cs)) u s') (hok : HOk P w H s.heap) (c : Ins H cs) (nf : ∀ b o, cs.lookup b = some o → b ∉ frs outer) : L2N.CX P w outer H s E u s' := by
  obtain ⟨a, B, H', cls, d, e, fl, hok', ub, na, os, ag, hE⟩ := x
  have o' : Outs H' B cs := fun b o z => by
    have hb := cel_at hok (c b o z)
    exact ⟨ub.keep b o hb (unl_in z) (nf b o z), ub.free b o hb (unl_in z)⟩
  have z : cs.lookup a = none := by
    cases z : cs.lookup a with
    | none => rfl
    | some o =>
      have y := fl.2.1
      rw [(o' a o z).1] at y
      cases y
  exact ⟨a, B, lend H' cs, cls, d, e, fl, lend_ok hok' o', ub_in ub c, by rw [lend_out z]; exact na, os, ag, hE fun b o z => (o' b o z).2⟩
theorem ce_in {outer : List Env} {s s' : Shared} {Q : VK} {u : Value} (x : CE outer P w (unl H cs) s (fun v H' => Offs H' cs → Q v (lend H' cs)) u s') (hok : HOk P w H s.heap) (c : Ins H cs) (nf : ∀ b o, cs.lookup b = some o → b ∉ frs outer) : CE outer P w H s Q u s' := by
  obtain ⟨v, H', os, bare, un, hok', r, q⟩ := x
  have o' := outs_after un hok c nf
  exact ⟨v, lend H' cs, os, bare, un_in un c, lend_ok hok' o', r, q fun b o z => (o' b o z).2⟩
theorem cx_out {outer : List Env} {s s' : Shared} {E : XK} {u : Value} (x : L2N.CX P w outer (lend H cs) s (fun cls d H' => Ins H' cs ∧ E cls d (unl H' cs)) u s') (c : Outs H s.heap cs) : L2N.CX P w outer H s E u s' := by
  obtain ⟨a, B, H', cls, d, e, fl, hok', ub, na, os, ag, i', hE⟩ := x
  exact ⟨a, B, unl H' cs, cls, d, e, fl, unl_ok hok' i', ub_out ub c i' hok', by rw [unl_out (i'.off na)]; exact na, os, ag, hE⟩
end
open NdefX LamX in
theorem ask_of {P : Program} {w : World} {K : PySem.W.Frag} {mg : Str → Option Value} {base : Heap} {k : Nat} {f c' : Addr} {name qual : Str} {params : Arguments} {body : Expr} {scope : Scope} {cl : List (Str × Addr)} {dV doc pm ct : Value} {cs : List (Addr × Obj)} {N ps fr : List Str} {vs : List V} {ws : List (Option V)} {fs : List (Addr × HO)} {sp : Hp → VK → XK → Prop}
    (S : NScope N ps fr scope) (m1 : (f, FunO f (lamFd name qual params body scope cl dV doc pm c' ct)) ∈ fs) (m2 : (c', CodeO c' qual) ∈ fs) (m3 : ∀ b o, cs.lookup b = some o → (b, CelO b o) ∈ fs)
    (len : ws.length = fr.length) (inj : ∀ x y c, cl.lookup x = some c → cl.lookup y = some c → x = y) (all : ∀ y c, cl.lookup y = some c → ∃ o v, cs.lookup c = some o ∧ o.data = .cell v)
    (has : ∀ (i : Nat) (y : Str), fr[i]? = some y → ∃ c o, cl.lookup y = some c ∧ cs.lookup c = some o ∧ ∀ v, ws[i]? = some (some v) → ∃ u, L2.RelV v u ∧ o.data = .cell (some u))
    (hbind : ∀ (s : Shared) (H : Hp), HOk P w H s.heap → (∀ p ∈ fs, H p.1 = some p.2) → ∃ us, BindsTo s (lamFd name qual params body scope cl dV doc pm c' ct) ⟨[], []⟩ (ps.zip us) ∧ Vals vs us) (hl : vs.length = ps.length)
    (hrun : ∀ (A : Around) (outer : List Env) (s : Shared) (H : Hp) (Q : VK) (E : XK), Room k (A.deeper (envF ⟨name, qual, params, [], scope, cl, c'⟩ f s.heap.objs.size)) → (∀ p ∈ fs, H p.1 = some p.2) → sp H Q E →
      ∃ tb, PE (ncx (L2N.CX P w) P w K mg base N ⟨name, qual, params, [], scope, cl, c'⟩ f A outer s (unl H cs) (fun cls d H' => Offs H' cs → E cls d (lend H' cs))) body tb ∧ tb (startF N vs ws) (unl H cs) (fun v H' => Offs H' cs → Q v (lend H' cs))) :
    AskOk P w K mg base (L2N.CX P w) (k + 1) f fs sp := by
  refine ⟨fun H h hok hf => ?_, fun A outer s H Q E hr e0 hf q => ?_⟩
  · have x : ObjOk P w H h f (FunO f (lamFd name qual params body scope cl dV doc pm c' ct)) := hok f _ (hf _ m1)
    obtain ⟨⟨od, sl, ho⟩, _, _⟩ := x
    exact ⟨_, _, _, _, ho⟩
  · have ins : Ins H cs := fun b o z => hf _ (m3 b o z)
    have nf : ∀ b o, cs.lookup b = some o → b ∉ frs outer := fun b o z hb => by
      have y := e0.frf b hb
      rw [ins b o z] at y
      cases y
    have e1 := env0_unl e0 ins
    have lim : s.heap.NoLimit := e0.mod.nolimit.keeps fun b o e => (e0.bs b o e).1
    have C : CellsAt cl fr ws s.heap (unl H cs) := by
      refine ⟨len, fun y c e => ?_, inj, fun i y e => ?_⟩
      · obtain ⟨o, v, h1, h2⟩ := all y c e
        exact ⟨unl_in h1, v, o, cel_at e0.hok (ins c o h1), h2⟩
      · obtain ⟨c, o, h1, h2, h3⟩ := has i y e
        refine ⟨c, h1, fun v z => ?_⟩
        obtain ⟨u, r, hd⟩ := h3 v z
        exact ⟨u, r, o, cel_at e0.hok (ins c o h2), hd⟩
    have x : ObjOk P w H s.heap f (FunO f (lamFd name qual params body scope cl dV doc pm c' ct)) := e0.hok f _ (hf _ m1)
    obtain ⟨⟨od, sl, ho⟩, _, _⟩ := x
    have hcr := codeO_at e0.hok (hf _ m2)
    obtain ⟨us, hbd, hvs⟩ := hbind s H e0.hok hf
    obtain ⟨tb, ht, hq⟩ := hrun A outer s H Q E (hr.deeper _) hf q
    refine codeAny_mono (R := CR (L2N.CX P w) outer P w (unl H cs) s (fun v H' => Offs H' cs → Q v (lend H' cs)) (fun cls d H' => Offs H' cs → E cls d (lend H' cs))) ?_ (fun r s' hq => ?_)
    · refine PySem.W.kla_callFunE hr.depth ho rfl S.co S.gen rfl hcr ?_
      refine hbd _ _ _ _ ?_
      refine wpAny_newFunctionEnv S.nocell (fun ⟨n, _⟩ hy => S.par n (List.of_mem_zip hy).1) (fun h₁ hns hsb => ⟨lim.fresh _ hsb, ?_⟩) S.kind
      show codeAny _ _ (.expr body (envF ⟨name, qual, params, [], scope, cl, c'⟩ f s.heap.objs.size)) _ _
      have kp : ∀ b o, s.heap.get? b = some o → h₁.get? b = some o := fun b o e => hsb.extBut b o (Nat.ne_of_lt (Heap.lt_size e)) (Heap.get?_push_of_some _ e)
      have I : Inv (ncx (L2N.CX P w) P w K mg base N ⟨name, qual, params, [], scope, cl, c'⟩ f A outer s (unl H cs) (fun cls d H' => Offs H' cs → E cls d (lend H' cs))) [] (startF N vs ws) (unl H cs) { s with heap := h₁, toks := s.toks + (ps.zip us).length } :=
        inv_startN (F := ⟨name, qual, params, [], scope, cl, c'⟩) S hr.hd e1 hl hvs C hns kp
      refine PySem.W.kla_codeExpr (wpAny_mono (ht.run [] _ (startF N vs ws) (unl H cs) _ I hq) (fun v s' hs => ?_) fun e s' hs => hs)
      obtain ⟨y, H', J, rv, q⟩ := hs
      exact ⟨y, H', J.os, J.bare, J.base, J.hok, rv, q⟩
    · cases r with
      | error e => exact cx_in hq e0.hok ins nf
      | ok fl =>
        cases fl with
        | ret u => exact ce_in hq e0.hok ins nf
        | next => exact False.elim hq
        | brk => exact False.elim hq
        | cont => exact False.elim hq
end LendN
namespace Kk
open PySem L2 PyProof.Rows

end Kk
namespace LendN
open PySem PySem.Spec PyProof.Rows L2
/-! ### X(e, ..) as what is raised, its context told to be None -/
theorem pmkN_own {X : Cx} {CX : CXT} {x : Str} {e : Expr} {es : List Expr} {ta : TA} {p pos : Pos} {C fI : Addr} {k : Nat} {fd : FuncData} {ps : List Str} {sp : Sp} (T : OexC X.K C) (iC : PySem.W.findIn X.K (.ref C) "__init__" = some (some (.ref fI))) (tI : PySem.W.typeIn X.K (.ref fI) = some (.type "function"))
    (F1 : FnOk X.prog X.w X.K X.mg X.base CX k fI fd ps sp) (hr : Room (k + 1) X.A) (hb : Binds X.K fd ps []) (hx : Passes CX X (fun _ _ _ => False)) (hg : Gl X x) (hm : X.mg x = some (.ref C)) (ha : PA X (e :: es) ta)
    (hdb : (x == ("__debug__" : Str)) = false := by decide) (he : starEach (e :: es) X.env = (false, eval e X.env) :: starEach es X.env := by rfl) (hpl : (backTo pos (starEach es X.env)).any (·.1) = false := by rfl) :
    L2N.PMk X (.Call (.Name x p) (e :: es) [] pos) (tMkO C sp [] ta) := fun pins s σ H Q I h => by
  obtain ⟨nm, q, N, bs, bm, sn, sub, ab, col, dd, k0, k1, k2, k3, k5, hC, hbm⟩ := T.cls
  refine wpAny_Call_Name_kw (ld_glob I hg hm (PySem.W.callWith_K (h₀ := X.base) I.ok.mod.kin T.kC (thn (ha.run pos pins s σ H _ I h) fun us s1 ⟨vs, H1, I1, r1, hz, q1⟩ => ⟨I1.kIn, ?_⟩) he hpl) hdb)
  obtain ⟨hp, g, dr, tk, os⟩ := s1
  have two : ∀ b o, hp.get? b = some o → ((hp.push (PySem.W.kdv_tup us)).push (PySem.HandSPX.excO C hp.objs.size)).get? b = some o := fun b o e => Heap.get?_push_of_some _ (Heap.get?_push_of_some _ e)
  have I2 := I1.laid (t' := tk) (o := exo (hp.objs.size + 1) C none) two (Nat.le_succ _) (exo_ok (t1 := hp.objs.size) (by heap_get))
  have hq := q1 (hp.objs.size + 1) (I1.hok.fresh (Nat.le_succ _))
  rw [List.append_nil] at hq
  have r2 : Vals (V.ref (hp.objs.size + 1) :: vs) (Value.ref (hp.objs.size + 1) :: us) := .cons rfl r1
  have b2 := hb _ (Value.ref (hp.objs.size + 1) :: us) I2.kIn (by rw [List.append_nil, ← r2.length]; exact F1.len _ _ _ _ hq)
  rw [List.append_nil] at b2
  show wpAny _ _ (call (.ref C) us) _ _ _
  refine wpAny_call (PySem.HandSPX.call_own F.excBase_ValueError (fun Y => PySem.HandSPX.refsVE_contains Y bm hbm) (I1.kIn _ _ hC) (PySem.W.looks_findIn I1.kIn iC) (fun self => PySem.W.bind_fn I1.kIn self tI) (by rw [← Paired.length r1, sizeLine_eq]; omega)
    (codeAny_mono (F1.run _ X.stack _ _ ⟨Value.ref (hp.objs.size + 1) :: us, []⟩ _ _ _ (fun _ _ _ => False) (hr.make C us []) (I2.env0.make C us []) b2 r2 hq) fun r s' hq' => ?_))
  match r, hq' with
  | .error er, hq' => exact hx pins σ _ _ er s' I2 hq'
  | .ok (.ret u), ⟨v, H2, os2, bare2, un2, hok2, rv, ev, d, fs, ea, ed, hd1, q2⟩ =>
    subst ev
    obtain ⟨h2, g2, d2, t2, os'⟩ := s'
    obtain ⟨t0, G, J, kG, ge, hoe, na⟩ := mk_end0 (d2 := d2) (t2 := t2) I1 (Nat.le_succ _) two un2 hok2 os2 bare2 ea ed hd1
    exact ⟨rv, hp.objs.size + 1, _, _, ⟨G, g2, d2, t2, os'⟩, _, .ref C, some d, rfl, J, kG, ge, hoe, ⟨rfl, rfl, fun vs hv => by cases hv; rfl⟩, rfl, rfl, na, rfl, bare2, raises_own T.exC T.tyC, q2⟩
theorem okN {P : Program} {w : World} {K : PySem.W.Frag} {mg : Str → Option Value} {base : Heap} {x qual : Str} {st : Stmt} {f : Addr} {fd : FuncData} {N ps : List Str} {k : Nat} {sp : Sp} (F : Fun K x qual st f fd) (S : FnScope N ps (defScope st)) (len : ∀ vs H Q E, sp vs H Q E → vs.length = ps.length)
    (hbody : ∀ (cdv : Value) (A : Around) (outer : List Env) (s : Shared) (H : Hp) (vs : List V) (Q : VK) (E : XK), Room k (A.deeper (envOfC qual (defScope st) s.heap.objs.size f cdv)) → sp vs H Q E →
      ∃ t, PSs (cxOf (L2N.CX P w) P w K mg base N qual (defScope st) f cdv A outer s H E) (defBody st) t ∧ t { nx := fun _ H' => Q .non H', rt := Q } (L2.start N vs) H) : FnOk P w K mg base (L2N.CX P w) (k + 1) f fd ps sp := by
  obtain ⟨oc, od, kV, doc, pm, an, cdv, ct, osl, rfl, lk, hcd⟩ := F.ex
  exact fn_of lk hcd S len fun A outer s H vs Q E hr hsp => hbody cdv A outer s H vs Q E hr hsp
/-- ask() on a local name, what it lets out told of the very state -/
def tAskS (P : Program) (w : World) (K : PySem.W.Frag) (mg : Str → Option Value) (base : Heap) (k i : Nat) (W : WX) : TE := fun σ H Q => ∃ (f : Addr) (fs : List (Addr × HO)) (sp : Hp → VK → XK → Prop), σ[i]? = some (some (.ref f)) ∧ Lend.AskOk P w K mg base (L2N.CX P w) k f fs sp ∧ (∀ p ∈ fs, H p.1 = some p.2) ∧ sp H Q (fun cls d H' => W cls d σ H')
theorem pe_askS {X : Cx} {k i : Nat} {W : WX} {a : Str} {p1 p2 : Pos} (hr : Room k X.A) (tk : L2N.Takes X W) (hN : X.N[i]? = some a) (hv : Vis X.env.scope a) (hd : (a == ("__debug__" : Str)) = false := by decide) (hcd : (a == ("__classdict__" : Str)) = false := by decide) :
    PE X (.Call (.Name a p1) [] [] p2) (tAskS X.prog X.w X.K X.mg X.base k i W) := by
  refine ⟨fun pins s σ H Q I h => ?_⟩
  obtain ⟨f, fs, sp, hs, ok, hf, q⟩ := h
  refine wpAny_Call_Name_kw (thn ((pe_var (pos := p1) (i := i) hN hv hd hcd).run pins s σ H (fun v H1 => v = .ref f ∧ H1 = H) I ⟨.ref f, hs, rfl, rfl⟩) fun u s1 ⟨v, H1, I1, r1, ev, eH⟩ => ?_)
  subst ev
  rw [eH] at I1
  obtain rfl : u = Value.ref f := r1
  refine PySem.W.callWith_F0 (ok.fn H _ I1.hok hf) (wpAny_call (codeAny_mono (ok.run X.A X.stack s1 H Q _ hr I1.env0 hf q) fun r s' hq => ?_))
  match r, hq with
  | .error e, hq => exact L2N.passAt tk σ pins H s1 e s' I1 hq
  | .ok (.ret u), hq => exact I1.after hq
end LendN
namespace Kk
open PySem L2 PyProof.Rows

end Kk
namespace HotP
open PySem PySem.Spec PyProof.Rows L2 HotX L2H
/-! ### a def called within an except suite whose promise speaks of the handled error -/
structure FnHP (P : Program) (w : World) (K : PySem.W.Frag) (mg : Str → Option Value) (base : Heap) (CX : CXT) (k : Nat) (f : Addr) (fd : FuncData) (ps : List Str) (sp : Addr × Obj → Sp) : Prop where
  len : ∀ p vs H Q E, sp p vs H Q E → vs.length = ps.length
  run : ∀ (A : Around) (outer : List Env) (s : Shared) (H : Hp) (args : Args) (us : List Value) (vs : List V) (Q : VK) (E : XK) (p : Addr × Obj), RoomH k A → Hot1 A p → PinOk outer H s p → Env0 P w K mg base A outer s H → BindsTo s fd args (ps.zip us) → Vals vs us → sp p vs H Q E →
    codeAny (model P w) A (.call (.ref f) args) (CR CX outer P w H s Q E) s
section
variable {CX : CXT} {P : Program} {w : World} {K : PySem.W.Frag} {mg : Str → Option Value} {base : Heap} {k : Nat} {f : Addr} {name qual : Str} {params : Arguments} {body : List Stmt} {scope : Scope} {dV kV doc pm cdv ct oc : Value} {an od : Option Addr} {osl : Array (Option Value)} {N ps : List Str} {sp : Addr × Obj → Sp}
theorem fnHP_of (lk : K.lookup f = some ⟨oc, od, .func (PySem.W.fnOf name qual params body scope dV kV doc pm an cdv ct), osl⟩) (hcd : PySem.W.codeIn K cdv qual = true) (S : FnScope N ps scope) (len : ∀ p vs H Q E, sp p vs H Q E → vs.length = ps.length)
    (hbody : ∀ (A : Around) (outer : List Env) (s : Shared) (H : Hp) (vs : List V) (Q : VK) (E : XK) (p : Addr × Obj), Hot1 A p → RoomH k (A.deeper (envOfC qual scope s.heap.objs.size f cdv)) → sp p vs H Q E →
      ∃ t, PSs (cxH CX P w K mg base N qual scope f cdv A outer s H E p) body t ∧ t { nx := fun _ H' => Q .non H', rt := Q } (L2.start N vs) H) :
    FnHP P w K mg base CX (k + 1) f (PySem.W.fnOf name qual params body scope dV kV doc pm an cdv ct) ps sp := by
  refine ⟨len, fun A outer s H args us vs Q E p hr hot hpin e0 hb r hsp => ?_⟩
  have KX : K.In s.heap := e0.mod.kin.keeps fun b o e => (e0.bs b o e).1
  have lim : s.heap.NoLimit := e0.mod.nolimit.keeps fun b o e => (e0.bs b o e).1
  refine codeAny_call_function hr.depth (KX _ _ lk) rfl S.co S.gen rfl (PySem.W.codeRec_of KX hcd) (hb _ _ _ _ (wpAny_newFunctionEnv_cells S.kind (fun ⟨n, v⟩ hy => ?_) fun env he s1 x => ?_))
  · exact (S.par n (List.of_mem_zip hy).1).imp id fun q => ⟨q, PySem.W.cellsFrom_some _ _ _ (.inl q)⟩
  · subst he
    obtain ⟨t, ht, hq⟩ := hbody A outer s H vs Q E p hot (hr.deeper _) hsp
    have I : Inv (cxH CX P w K mg base N qual scope f cdv A outer s H E p) [] (L2.start N vs) H s1 := inv_startH S hpin e0 (len _ _ _ _ _ hsp) r x
    refine ⟨lim.keeps x.toInCall.keep, codeAny_func (wpAny_mono (ht.run [] s1 _ H _ I hq) (fun fl s' hs => ?_) fun e s' hs => hs)⟩
    cases fl with
    | ret u =>
      obtain ⟨v, _, H', J, rv, q⟩ := hs
      exact ⟨v, H', J.os, J.bare, J.base, J.hok, rv, q⟩
    | next =>
      obtain ⟨_, H', J, q⟩ := hs
      exact ⟨V.non, H', J.os, J.bare, J.base, J.hok, rfl, q⟩
    | brk =>
      obtain ⟨_, _, _, q⟩ := hs
      exact False.elim q
    | cont =>
      obtain ⟨_, _, _, q⟩ := hs
      exact False.elim q
/-- the reading of a call of such a def within the suite, p the handled error -/
def tCallHP (p : Addr × Obj) (sp : Addr × Obj → Sp) (t : TA) : TE := fun σ H Q => t σ H fun vs H1 => sp p vs H1 Q C8.E0
theorem pe_callHP {X : Cx} {k : Nat} {f : Addr} {fd : FuncData} {ps : List Str} {sp : Addr × Obj → Sp} {x : Str} {q pos : Pos} {e : Expr} {es : List Expr} {t : TA} {p : Addr × Obj} (F : FnHP X.prog X.w X.K X.mg X.base C8.CX0 k f fd ps sp) (hr : RoomH k X.A) (hot : Hot1 X.A p) (hp : p ∈ X.pn) (hg : Gl X x) (hm : X.mg x = some (.ref f)) (hk : PySem.W.keepIn X.K (.ref f) = true) (hb : Binds X.K fd ps [])
    (ha : PA X (e :: es) t) (hdb : (x == ("__debug__" : Str)) = false := by decide) (he : starEach (e :: es) X.env = (false, eval e X.env) :: starEach es X.env := by rfl) (hpl : (backTo pos (starEach es X.env)).any (·.1) = false := by rfl) :
    PE X (.Call (.Name x q) (e :: es) [] pos) (tCallHP p sp t) := by
  refine ⟨fun pins s σ H Q I h => ?_⟩
  refine wpAny_Call_Name_kw (ld_glob I hg hm ?_ hdb)
  refine PySem.W.callWith_K (h₀ := X.base) I.ok.mod.kin hk (thn (ha.run pos pins s σ H _ I h) fun us s1 ⟨vs, H1, I1, r, q⟩ => ⟨I1.kIn, ?_⟩) he hpl
  have hl : us.length = ps.length := by
    rw [← r.length]
    exact F.len _ _ _ _ _ q
  have b := hb s1 us I1.kIn (by rw [List.append_nil]; exact hl)
  rw [List.append_nil] at b
  obtain ⟨g1, g2, g3, g4, g5⟩ := I1.pin p (List.mem_append_left _ hp)
  refine wpAny_call (codeAny_mono (F.run X.A X.stack s1 H1 ⟨us, []⟩ us vs Q C8.E0 p hr hot ⟨g1, g2, fun hm => (List.mem_cons.mp (I1.stkSub p.1 hm)).elim g3 g4, g5⟩ I1.env0 b r q) fun r s' hq => ?_)
  cases r with
  | error e => exact hq.elim
  | ok fl =>
    cases fl with
    | ret u => exact I1.after hq
    | next => exact False.elim hq
    | brk => exact False.elim hq
    | cont => exact False.elim hq
end
/-- the reading of e.n, e the handled error p -/
def RPin (K : PySem.W.Frag) (p : Addr × Obj) (n : Str) (x : V) (H1 : Hp) (Q : VK) : Prop := x = .ref p.1 ∧ ∃ (C d : Addr) (fs : List (Str × V)) (v : V), XfC K C ∧ PySem.W.findIn K (.ref C) n = some none ∧ p.2.cls = .ref C ∧ p.2.dict = some d ∧ (∃ vs, p.2.data = .fields vs) ∧ H1 d = some (.xd fs) ∧ fs.lookup n = some v ∧ Q v H1
def tPin (K : PySem.W.Frag) (p : Addr × Obj) (n : Str) (te : TE) : TE := fun σ H Q => te σ H fun x H1 => RPin K p n x H1 Q
theorem pe_pinf {X : Cx} {p : Addr × Obj} {e : Expr} {te : TE} {pos : Pos} {n : Str} (hp : p ∈ X.pn) (he : PE X e te) (hb : attributeBase e n X.env (eval e X.env) = eval e X.env := by rfl) :
    PE X (.Attribute e n pos) (tPin X.K p n te) := by
  refine ⟨fun pins s σ H Q I h => attr_of hb (thn (he.run pins s σ H _ I h) fun u s1 hh => ?_)⟩
  obtain ⟨x, H1, I1, rx, rfl, C, d, fs, v, T, hno, hc, hd, ⟨vs, hv⟩, h1, l, q⟩ := hh
  obtain rfl : u = Value.ref p.1 := rx
  have x1 : ObjOk X.prog X.w H1 s1.heap d (.xd fs) := I1.hok d _ h1
  obtain ⟨mA, hns, hr⟩ := x1
  obtain ⟨od, ho, hl⟩ := lookIn_ns hns
  have hm : RelO (some v) (mA n) := by
    have z := hr n
    rw [l] at z
    exact z
  obtain ⟨w, hw, rw_⟩ := RelO.some_of (v := v) (o := mA n) hm
  have J : PySem.W.InstAt s1.heap p.1 p.2 C (some od) := ⟨(I1.pin p (List.mem_append_left _ hp)).1, hc, by unfold PySem.W.notCls; rw [hv] <;> rfl, by rw [hd]; exact ho⟩
  exact HandSPX.exc_get I1.kIn J T.ga T.gg T.exC (PySem.W.findObj_own T.hdC hno rfl (by rw [hl, hw])) (handed_of rw_) ⟨v, H1, I1.tok _, rw_, q⟩
end HotP
namespace Kk
open PySem L2 PyProof.Rows

end Kk
namespace LendN
open PySem PySem.Spec PyProof.Rows L2 Lend LamX NdefX
/-! ### what is told across lent cells -/
theorem celO_lst {c : Addr} {o : Obj} {xs : List V} : CelO c o ≠ .lst xs := fun z => by
  have z' : HO.ext _ = HO.lst xs := z
  cases z'
section
variable {H H' H1 G : Hp} {cs : List (Addr × Obj)} {b : Addr} {u : HO}
theorem Ins.same (s : Same H H') (h : Ins H cs) : Ins H' cs := fun b o e => s _ _ (h b o e)
theorem unl_same (s : Same H H') : Same (unl H cs) (unl H' cs) := fun b u e => by
  cases z : cs.lookup b with
  | some o =>
    rw [unl_in z] at e
    cases e
  | none =>
    rw [unl_out z] at e ⊢
    exact s _ _ e
theorem lend_same (i : Ins H cs) (s : Same (unl H cs) H') : Same H (lend H' cs) := fun b u e => by
  cases z : cs.lookup b with
  | some o =>
    rw [lend_in z, ← i b o z]
    exact e
  | none =>
    rw [lend_out z]
    exact s _ _ (by rw [unl_out z]; exact e)
theorem off_at (f : Offs H' cs) (e : H' b = some u) : cs.lookup b = none := by
  cases z : cs.lookup b with
  | none => rfl
  | some o =>
    rw [f b o z] at e
    cases e
theorem lend_at (f : Offs H' cs) (e : H' b = some u) : lend H' cs b = some u := by
  rw [lend_out (off_at f e)]
  exact e
theorem lend_non (e : lend H' cs b = none) : H' b = none := by
  cases z : cs.lookup b with
  | some o =>
    rw [lend_in z] at e
    cases e
  | none =>
    rw [lend_out z] at e
    exact e
theorem lend_sub (f : Offs H' cs) : Same H' (lend H' cs) := fun b u e => lend_at f e
/-- behind the call: what was lent is let go -/
theorem unl_of (f : Offs H1 cs) (s : Same (lend H1 cs) G) : Same H1 (unl G cs) := fun b u e => by
  have z := off_at f e
  rw [unl_out z]
  exact s _ _ (by rw [lend_out z]; exact e)
theorem unl_at (i : Ins G cs) (n : ∀ o, CelO b o ≠ u) (e : G b = some u) : unl G cs b = some u := by
  rw [unl_out (i.offO e n)]
  exact e
theorem same_unl_lend (f : Offs H1 cs) : Same H1 (unl (lend H1 cs) cs) := unl_of f (fun _ _ e => e)
end
theorem pair_at {α β : Type} {F : α → β → Prop} : ∀ {l : List α} {m : List β}, Paired F l m → ∀ {i : Nat} {a : α}, l[i]? = some a → ∃ b, m[i]? = some b ∧ F a b
  | _, _, .nil, _, _, h => by cases h
  | _, _, .cons r _, 0, _, h => by
    cases h
    exact ⟨_, rfl, r⟩
  | _, _, .cons _ t, i + 1, _, h => pair_at t (i := i) h
/-! ### a lambda to be asked -/
def askSp (cs : List (Addr × Obj)) (σ0 : L2.St) (tb : XK → TE) : Hp → VK → XK → Prop := fun H Q E => tb (fun cls d H' => Offs H' cs → E cls d (lend H' cs)) σ0 (unl H cs) fun v H' => Offs H' cs → Q v (lend H' cs)
/-- the cell of y holds v -/
def Cap (X : Cx) (cs : List (Addr × Obj)) (y : Str) (v : V) : Prop := ∃ (c : Addr) (o : Obj) (u : Value), X.env.cells.lookup y = some c ∧ cs.lookup c = some o ∧ L2.RelV v u ∧ o.data = .cell (some u)
structure CellW (X : Cx) (σ : L2.St) (ys : List (Str × Nat)) (cs : List (Addr × Obj)) : Prop where
  inj : ∀ x y c, X.env.cells.lookup x = some c → X.env.cells.lookup y = some c → x = y
  own : ∀ b o, cs.lookup b = some o → ∃ y, X.env.cells.lookup y = some b ∧ X.fn y = true
  val : ∀ y ∈ ys, ∃ v, σ[y.2]? = some (some v) ∧ Cap X cs y.1 v
theorem CellW.cap {X : Cx} {σ : L2.St} {ys : List (Str × Nat)} {cs : List (Addr × Obj)} (C : CellW X σ ys cs) {y : Str} {i : Nat} {v : V} (m : (y, i) ∈ ys) (e : σ[i]? = some (some v)) : Cap X cs y v := by
  obtain ⟨v', e', h⟩ := C.val _ m
  have z : some (some v') = some (some v) := e'.symm.trans e
  cases z
  exact h
def CapOk (X : Cx) (σ : L2.St) (y : Str × Nat) : Prop := X.N[y.2]? = some y.1 ∧ (∃ v, σ[y.2]? = some (some v)) ∧ X.env.scope.names.lookup y.1 = some .cell ∧ X.fn y.1 = true
section
variable {X : Cx} {pins : List (Addr × Obj)} {σ : L2.St} {H : Hp} {s : Shared}
theorem cellw_of (I : Inv X pins σ H s) : ∀ ys : List (Str × Nat), (∀ y ∈ ys, CapOk X σ y) → ∃ cs, CellW X σ ys cs ∧ Outs H s.heap cs
  | [], _ => ⟨[], ⟨I.ok.inj, (fun _ _ e => by cases e), fun _ m => nomatch m⟩, fun _ _ e => by cases e⟩
  | (y, i) :: ys, h => by
    obtain ⟨cs, V1, O1⟩ := cellw_of I ys fun z m => h z (List.mem_cons_of_mem _ m)
    obtain ⟨hN, ⟨v, hv⟩, hk, hf⟩ := h (y, i) List.mem_cons_self
    obtain ⟨m, _, hl⟩ := I.loc
    obtain ⟨u, r, q⟩ := hl i y v hN hv (.inr (.inl hk))
    have hk' : X.env.kindOf y = some .cell := hk
    rcases q with ⟨k', _⟩ | ⟨_, c, hc, o, ho, hd⟩
    · rw [show X.env.scope.names.lookup y = some .local from k'] at hk
      cases hk
    · have n : H c = none := I.freeC y c hc
      have at_ : ∀ b, ((c, o) :: cs).lookup b = if b = c then some o else cs.lookup b := fun b => by
        by_cases e : b = c
        · subst e
          simp [List.lookup]
        · have e' : (b == c) = false := by simpa using e
          rw [if_neg e]
          simp [List.lookup, e']
      refine ⟨(c, o) :: cs, ⟨I.ok.inj, fun b o' e => ?_, fun z mz => ?_⟩, fun b o' e => ?_⟩
      · rw [at_] at e
        split at e
        · rename_i eb
          rw [eb]
          exact ⟨y, hc, hf⟩
        · exact V1.own b o' e
      · rcases List.mem_cons.mp mz with e | mz
        · rw [e]
          exact ⟨v, hv, c, o, u, hc, by rw [at_, if_pos rfl], r, hd⟩
        · obtain ⟨v2, h4, c2, o2, u2, h1, h2, h5, h6⟩ := V1.val z mz
          refine ⟨v2, h4, c2, o2, u2, h1, ?_, h5, h6⟩
          rw [at_]
          split
          · rename_i eb
            have z1 := (O1 c2 o2 h2).1
            rw [eb, ho] at z1
            rw [Option.some.inj z1]
          · exact h2
      · rw [at_] at e
        split at e
        · rename_i eb
          rw [← Option.some.inj e, eb]
          exact ⟨ho, n⟩
        · exact O1 b o' e
/-- the reading of a call to which the cells of ys are lent -/
def tCallW (X : Cx) (ys : List (Str × Nat)) (sp : Sp) (dvs : List V) (t : TA) : TE := fun σ H Q => t σ H fun vs H1 => (∀ y ∈ ys, CapOk X σ y) ∧
  ∀ cs, CellW X σ ys cs → Offs H1 cs → sp (vs ++ dvs) (lend H1 cs) (fun v H2 => Ins H2 cs ∧ Q v (unl H2 cs)) C8.E0
theorem pe_callW {k : Nat} {f : Addr} {fd : FuncData} {ps : List Str} {sp : Sp} {dvs : List V} {ds : List Value} {x : Str} {p pos : Pos} {e : Expr} {es : List Expr} {t : TA} (ys : List (Str × Nat)) (F : FnOk X.prog X.w X.K X.mg X.base C8.CX0 k f fd ps sp) (hr : Room k X.A) (hg : Gl X x) (hm : X.mg x = some (.ref f)) (hk : PySem.W.keepIn X.K (.ref f) = true) (hb : Binds X.K fd ps ds) (hd : Vals dvs ds)
    (ha : PA X (e :: es) t) (hdb : (x == ("__debug__" : Str)) = false := by decide) (he : starEach (e :: es) X.env = (false, eval e X.env) :: starEach es X.env := by rfl) (hpl : (backTo pos (starEach es X.env)).any (·.1) = false := by rfl) :
    PE X (.Call (.Name x p) (e :: es) [] pos) (tCallW X ys sp dvs t) := by
  refine ⟨fun pins s σ H Q I h => ?_⟩
  refine wpAny_Call_Name_kw (ld_glob I hg hm ?_ hdb)
  refine PySem.W.callWith_K (h₀ := X.base) I.ok.mod.kin hk (thn (ha.run pos pins s σ H _ I h) fun us s1 ⟨vs, H1, I1, r, hy, q⟩ => ⟨I1.kIn, ?_⟩) he hpl
  obtain ⟨cs, V1, O1⟩ := cellw_of I1 ys hy
  have q1 := q cs V1 fun b o z => (O1 b o z).2
  have big : ∀ b o, cs.lookup b = some o → X.s_0.heap.objs.size ≤ b ∧ b ≠ X.env.locals := fun b o z => by
    obtain ⟨y, hc, hf⟩ := V1.own b o z
    exact ⟨I1.ok.cab y b hf hc, I1.cne y b hc⟩
  have e1 := env0_lend I1.env0 O1 (fun b o z => by
    cases e : X.base.get? b with
    | none => rfl
    | some v => exact absurd (Nat.lt_of_lt_of_le (Heap.lt_size e) (Nat.le_trans I1.ok.bsz (big b o z).1)) (Nat.lt_irrefl _)) (fun b o z hb => by
    rcases List.mem_cons.mp (I1.stkSub b hb) with e | hb
    · exact (big b o z).2 e
    · obtain ⟨_, v, ho, _⟩ := I1.ok.funs.mem hb
      exact absurd (Nat.lt_of_lt_of_le (Heap.lt_size ho) (big b o z).1) (Nat.lt_irrefl _))
  have r2 : Vals (vs ++ dvs) (us ++ ds) := r.append hd
  have hl : (us ++ ds).length = ps.length := by
    rw [← r2.length]
    exact F.len _ _ _ _ q1
  refine wpAny_call (codeAny_mono (F.run X.A X.stack s1 (lend H1 cs) ⟨us, []⟩ (us ++ ds) (vs ++ dvs) _ _ hr e1 (hb s1 us I1.kIn hl) r2 q1) fun r s' hq => ?_)
  cases r with
  | error e => exact hq.elim
  | ok fl =>
    cases fl with
    | ret u => exact I1.after (ce_out hq O1)
    | next => exact False.elim hq
    | brk => exact False.elim hq
    | cont => exact False.elim hq
/-- what is raised is raised by no one -/
theorem passF : Passes (L2N.CX X.prog X.w) X (fun _ _ _ => False) := fun pins σ H s e s' I h => by
  obtain ⟨_, _, _, _, _, _, _, _, _, _, _, _, z⟩ := h
  exact z.elim
end
def RMin2 : List V → Hp → VK → Prop := fun xs H Q => ∃ i j, xs = [V.int i, V.int j] ∧ Q (.int (if j < i then j else i)) H
theorem c_min2 {X : Cx} (hc : X.calm = true) : CallR X (.builtin "min") RMin2 := call_min2 hc
theorem min2 {i j : Int} {H : Hp} {Q : VK} (q : Q (.int (if j < i then j else i)) H) : RMin2 [.int i, .int j] H Q := ⟨i, j, rfl, q⟩
def freeB (sc scope : Scope) : Bool := scope.names.all fun y => !decide (y.2 = .free) || decide (sc.names.lookup y.1 = some .cell)
theorem free_ok {qual : Str} {sc scope : Scope} {L f : Addr} {cdv : Value} (h : freeB sc scope = true) : ∀ y ∈ scope.names, y.2 = .free → ∃ c, (envOfC qual sc L f cdv).cells.lookup y.1 = some c := fun y hy e => by
  have z := List.all_eq_true.mp h y hy
  simp only [e, decide_true, Bool.not_true, Bool.false_or, decide_eq_true_eq] at z
  exact Option.isSome_iff_exists.mp (PySem.W.cellsFrom_some _ _ _ (.inl z))
theorem passL {P : Program} {w : World} {K : PySem.W.Frag} {mg : Str → Option Value} {base : Heap} {N : List Str} {F : NF} {f : Addr} {A : Around} {outer : List Env} {s : Shared} {H : Hp} {E : XK} : Passes (L2N.CX P w) (ncx (L2N.CX P w) P w K mg base N F f A outer s H E) E :=
  L2N.passes_call (L2N.takes_of (E₁ := fun e' s'' => L2N.CX P w outer H s E e' s'') rfl rfl rfl rfl) (fun _ _ _ _ h => h)
/-! ### the lambda's closure and its promise -/
section
variable {P : Program} {w : World} {K : PySem.W.Frag} {mg : Str → Option Value} {base : Heap} {k : Nat} {f c' : Addr} {qual : Str} {params : Arguments} {body : Expr} {scope : Scope} {dV doc pm ct : Value} {cs : List (Addr × Obj)} {N ps fr : List Str} {vs : List V} {ws : List V} {fs : List (Addr × HO)} {X : Cx} {σ : L2.St} {ys : List (Str × Nat)}
theorem ask_lam {tb : XK → TE} (S : NScope N ps fr scope) (C : CellW X σ ys cs) (hc : Paired (Cap X cs) fr ws)
    (m1 : (f, FunO f (lamFd "<lambda>" qual params body scope (cloFrom X.env.cells scope.names []) dV doc pm c' ct)) ∈ fs) (m2 : (c', CodeO c' qual) ∈ fs) (m3 : ∀ b o, cs.lookup b = some o → (b, CelO b o) ∈ fs)
    (hbind : ∀ (s : Shared) (H : Hp), HOk P w H s.heap → (∀ p ∈ fs, H p.1 = some p.2) → ∃ us, BindsTo s (lamFd "<lambda>" qual params body scope (cloFrom X.env.cells scope.names []) dV doc pm c' ct) ⟨[], []⟩ (ps.zip us) ∧ Vals vs us) (hl : vs.length = ps.length)
    (hbody : ∀ (A : Around) (outer : List Env) (s : Shared) (H : Hp) (E : XK), Room k (A.deeper (envF ⟨"<lambda>", qual, params, [], scope, cloFrom X.env.cells scope.names [], c'⟩ f s.heap.objs.size)) →
      PE (ncx (L2N.CX P w) P w K mg base N ⟨"<lambda>", qual, params, [], scope, cloFrom X.env.cells scope.names [], c'⟩ f A outer s H E) body (tb E)) :
    AskOk P w K mg base (L2N.CX P w) (k + 1) f fs (askSp cs (startF N vs (ws.map some)) tb) := by
  have cm : ∀ {y c}, (cloFrom X.env.cells scope.names []).lookup y = some c → y ∈ fr ∧ X.env.cells.lookup y = some c := fun {y c} e => by
    rcases cloFrom_mem (PySem.mem_of_lookup e) with hm | ⟨h1, h2⟩
    · cases hm
    · have hy := S.free _ h1 rfl
      obtain ⟨i, hi⟩ := List.mem_iff_getElem?.mp hy
      obtain ⟨v, c1, o, u, e1, e2, _⟩ : ∃ v, Cap X cs y v := by
        obtain ⟨v, _, z⟩ := pair_at hc hi
        exact ⟨v, z⟩
      refine ⟨hy, ?_⟩
      have h2' : c = (X.env.cells.lookup y).getD 0 := h2
      rw [h2', e1]
      rfl
  have capOf : ∀ y, y ∈ fr → ∃ v, Cap X cs y v := fun y hy => by
    obtain ⟨i, hi⟩ := List.mem_iff_getElem?.mp hy
    obtain ⟨v, _, z⟩ := pair_at hc hi
    exact ⟨v, z⟩
  refine ask_of S m1 m2 m3 (by rw [List.length_map]; exact hc.length.symm) (fun x y c e1 e2 => C.inj x y c (cm e1).2 (cm e2).2) (fun y c e => ?_) (fun i y e => ?_) hbind hl fun A outer s H Q E hr hf q => ⟨tb _, hbody A outer s _ _ hr, q⟩
  · obtain ⟨hy, ec⟩ := cm e
    obtain ⟨v, c1, o, u, e1, e2, _, e4⟩ := capOf y hy
    rw [ec] at e1
    cases e1
    exact ⟨o, _, e2, e4⟩
  · have hy := List.mem_of_getElem? e
    have hk := S.frk y hy
    obtain ⟨c2, h2⟩ := mem_lookup (cloFrom_has (cells := X.env.cells) (acc := []) (PySem.mem_of_lookup hk))
    obtain ⟨v, hv, c1, o, u, e1, e2, e3, e4⟩ := pair_at hc e
    have h3 := (cm h2).2
    rw [e1] at h3
    cases h3
    refine ⟨_, o, h2, e2, fun v' z => ?_⟩
    rw [List.getElem?_map, hv] at z
    cases z
    exact ⟨u, e3, e4⟩
end
/-! ### what is tracked within the call -/
def lendFs (cs : List (Addr × Obj)) : List (Addr × HO) := cs.map fun p => (p.1, CelO p.1 ((cs.lookup p.1).getD p.2))
theorem look_mem {cs : List (Addr × Obj)} {b : Addr} {o : Obj} : (b, o) ∈ cs → ∃ o', cs.lookup b = some o' := by
  induction cs with
  | nil => intro h; cases h
  | cons p r ih =>
    intro h
    obtain ⟨c, v⟩ := p
    by_cases e : b = c
    · subst e
      exact ⟨v, by simp [List.lookup]⟩
    · have e' : (b == c) = false := by simpa using e
      rcases List.mem_cons.mp h with h | h
      · cases h
        exact absurd rfl e
      · obtain ⟨o', q⟩ := ih h
        exact ⟨o', by simp [List.lookup, e', q]⟩
theorem mem_look {cs : List (Addr × Obj)} {b : Addr} {o : Obj} : cs.lookup b = some o → (b, o) ∈ cs := by
  induction cs with
  | nil => intro h; cases h
  | cons p r ih =>
    intro h
    obtain ⟨c, v⟩ := p
    simp only [List.lookup] at h
    split at h
    · rename_i e
      cases h
      rw [eq_of_beq e]
      exact List.mem_cons_self
    · exact List.mem_cons_of_mem _ (ih h)
theorem lendFs_mem {cs : List (Addr × Obj)} {b : Addr} {o : Obj} (e : cs.lookup b = some o) : (b, CelO b o) ∈ lendFs cs := by
  refine List.mem_map.mpr ⟨(b, o), mem_look e, ?_⟩
  show (b, CelO b ((cs.lookup b).getD o)) = _
  rw [e]
  rfl
theorem lendFs_ok {H : Hp} {cs : List (Addr × Obj)} (i : Ins H cs) : ∀ p ∈ lendFs cs, H p.1 = some p.2 := fun p hp => by
  obtain ⟨⟨b, o⟩, hq, rfl⟩ := List.mem_map.mp hp
  obtain ⟨o', e⟩ := look_mem hq
  show H b = some (CelO b ((cs.lookup b).getD o))
  rw [e]
  exact i b o' e
section
variable {P : Program} {w : World} {K : PySem.W.Frag} {mg : Str → Option Value} {base : Heap} {k : Nat} {f c' : Addr} {qual : Str} {params : Arguments} {body : Expr} {scope : Scope} {dV doc pm ct : Value} {cs : List (Addr × Obj)} {N fr : List Str} {ws : List V} {X : Cx} {σ : L2.St} {ys : List (Str × Nat)} {H : Hp}
/-- a lambda of no parameter -/
theorem ask0 {tb : XK → TE} (S : NScope N [] fr scope) (C : CellW X σ ys cs) (off : Offs H cs) (hc : Paired (Cap X cs) fr ws) (hF : H f = some (FunO f (lamFd "<lambda>" qual params body scope (cloFrom X.env.cells scope.names []) dV doc pm c' ct))) (hC : H c' = some (CodeO c' qual))
    (hD : DefsAt H dV []) (hb : bindArgs (lamFd "<lambda>" qual params body scope (cloFrom X.env.cells scope.names []) .none doc pm c' ct) ⟨[], []⟩ = pure [])
    (hbody : ∀ (A : Around) (outer : List Env) (s : Shared) (H : Hp) (E : XK), Room k (A.deeper (envF ⟨"<lambda>", qual, params, [], scope, cloFrom X.env.cells scope.names [], c'⟩ f s.heap.objs.size)) →
      PE (ncx (L2N.CX P w) P w K mg base N ⟨"<lambda>", qual, params, [], scope, cloFrom X.env.cells scope.names [], c'⟩ f A outer s H E) body (tb E)) :
    ∃ fs, AskOk P w K mg base (L2N.CX P w) (k + 1) f fs (askSp cs (startF N [] (ws.map some)) tb) ∧ ∀ p ∈ fs, lend H cs p.1 = some p.2 := by
  obtain rfl : dV = .none := hD
  refine ⟨(f, FunO f (lamFd "<lambda>" qual params body scope (cloFrom X.env.cells scope.names []) .none doc pm c' ct)) :: (c', CodeO c' qual) :: lendFs cs, ask_lam S C hc (.head _) (.tail _ (.head _)) (fun b o e => .tail _ (.tail _ (lendFs_mem e))) (fun s H _ _ => ⟨[], .of_eq hb, .nil⟩) rfl hbody, ?_⟩
  intro p hp
  rcases List.mem_cons.mp hp with rfl | hp
  · exact lend_at off hF
  · rcases List.mem_cons.mp hp with rfl | hp
    · exact lend_at off hC
    · exact lendFs_ok lend_ins p hp
/-- a lambda of one parameter, which has its default -/
theorem ask1 {tb : XK → TE} {x : Str} {d : V} (S : NScope N [x] fr scope) (C : CellW X σ ys cs) (off : Offs H cs) (hc : Paired (Cap X cs) fr ws) (hF : H f = some (FunO f (lamFd "<lambda>" qual params body scope (cloFrom X.env.cells scope.names []) dV doc pm c' ct))) (hC : H c' = some (CodeO c' qual)) (hD : DefsAt H dV [d])
    (hb : ∃ k : Option (Array Value) → Sem (List (Str × Value)), bindArgs (lamFd "<lambda>" qual params body scope (cloFrom X.env.cells scope.names []) dV doc pm c' ct) ⟨[], []⟩ = seqItems? (lamFd "<lambda>" qual params body scope (cloFrom X.env.cells scope.names []) dV doc pm c' ct).defaults >>= k ∧ ∀ u, k (some #[u]) = pure [(x, u)])
    (hbody : ∀ (A : Around) (outer : List Env) (s : Shared) (H : Hp) (E : XK), Room k (A.deeper (envF ⟨"<lambda>", qual, params, [], scope, cloFrom X.env.cells scope.names [], c'⟩ f s.heap.objs.size)) →
      PE (ncx (L2N.CX P w) P w K mg base N ⟨"<lambda>", qual, params, [], scope, cloFrom X.env.cells scope.names [], c'⟩ f A outer s H E) body (tb E)) :
    ∃ fs, AskOk P w K mg base (L2N.CX P w) (k + 1) f fs (askSp cs (startF N [d] (ws.map some)) tb) ∧ ∀ p ∈ fs, lend H cs p.1 = some p.2 := by
  obtain ⟨t, rfl, ht⟩ := hD
  refine ⟨(f, FunO f (lamFd "<lambda>" qual params body scope (cloFrom X.env.cells scope.names []) (.ref t) doc pm c' ct)) :: (c', CodeO c' qual) :: (t, .tup [d]) :: lendFs cs, ask_lam S C hc (.head _) (.tail _ (.head _)) (fun b o e => .tail _ (.tail _ (.tail _ (lendFs_mem e)))) (fun s H hok hf => ?_) rfl hbody, ?_⟩
  · have z : ObjOk P w H s.heap t (.tup [d]) := hok t _ (hf _ (.tail _ (.tail _ (.head _))))
    obtain ⟨_, its, rv, o, ho, _, n, hd⟩ := z
    cases rv with
    | cons r1 r2 =>
      cases r2
      obtain ⟨kk, h1, h2⟩ := hb
      exact ⟨_, BindsTo.of_defaults (T := t) rfl ho hd h1 (h2 _), .cons r1 .nil⟩
  · intro p hp
    rcases List.mem_cons.mp hp with rfl | hp
    · exact lend_at off hF
    · rcases List.mem_cons.mp hp with rfl | hp
      · exact lend_at off hC
      · rcases List.mem_cons.mp hp with rfl | hp
        · exact lend_at off ht
        · exact lendFs_ok lend_ins p hp
end
end LendN
namespace Kk
open PySem L2 PyProof.Rows

/-! ### the text by places, what the top has written -/
/-- a table of the text: the first entry of a word -/
def findT {α : Type} (l : List (Str × α)) (z : Str) : Option α := (l.find? fun p => decide (p.1 = z)).map (·.2)
def RelOpt {α : Type} (R : α → Value → Prop) : Option α → Option Value → Prop
  | some x, some u => R x u
  | none, none => True
  | _, _ => False
def RelTu (K : PySem.W.Frag) (xs : List V) (u : Value) : Prop := ∃ t, u = .ref t ∧ ∀ H : Hp, SqT K H t xs
theorem find_rel {α : Type} {R : α → Value → Prop} : ∀ {l : List (Str × α)} {m : List (Str × Value)}, Paired (fun (p : Str × α) (q : Str × Value) => p.1 = q.1 ∧ R p.2 q.2) l m → ∀ z, RelOpt R (findT l z) (findT m z)
  | _, _, .nil, _ => trivial
  | p :: l, q :: m, .cons r t, z => by
    unfold findT
    rw [List.find?_cons, List.find?_cons, ← r.1]
    cases decide (p.1 = z) with
    | true => exact r.2
    | false => exact find_rel t z
theorem nsIn_of {K : PySem.W.Frag} {c : Addr} {ty : Value} {dd : Option Addr} {es : Array DictEntry} {n : Nat} {sl : Array (Option Value)} (h : K.lookup c = some ⟨ty, dd, .dict es n, sl⟩) {L : List (Str × Value)}
    (e : Paired (fun (d : DictEntry) (p : Str × Value) => (∃ t, d.key = .str p.1 t) ∧ d.val = p.2) es.toList L) (z : Str) : PySem.W.nsIn K c z = some (findT L z) := by
  unfold PySem.W.nsIn
  rw [h]
  dsimp only
  have k : ∀ (l : List DictEntry) (L : List (Str × Value)), Paired (fun (d : DictEntry) (p : Str × Value) => (∃ t, d.key = .str p.1 t) ∧ d.val = p.2) l L → (l.find? (·.key.isStr z)).map (·.val) = findT L z ∧ l.any (·.refKey) = false := by
    intro l L e
    induction e with
    | nil => exact ⟨rfl, rfl⟩
    | @cons d p l L r _ ih =>
      obtain ⟨⟨t, hk⟩, hv⟩ := r
      have e1 : d.key.isStr z = decide (p.1 = z) := by
        rw [hk]
        show (p.1 == z) = decide (p.1 = z)
        rw [Bool.eq_iff_iff]
        simp
      have e2 : d.refKey = false := by
        unfold DictEntry.refKey
        rw [hk]
      refine ⟨?_, by rw [List.any_cons, e2, ih.2]; rfl⟩
      unfold findT at ih ⊢
      rw [List.find?_cons, List.find?_cons, e1]
      cases decide (p.1 = z) with
      | true => exact congrArg some hv
      | false => exact ih.1
  obtain ⟨k1, k2⟩ := k _ _ e
  cases q : es.toList.find? (·.key.isStr z) with
  | some d =>
    rw [q] at k1
    rw [← k1]
    rfl
  | none =>
    rw [q] at k1
    rw [← k1]
    simp [k2]
def top (i : Nat) : Stmt := PySem.Challenge.pw_leastimage_k12_cells_apart_and_together.main.body.getD i (.Pass ⟨0, 0, 0, 0⟩)
abbrev s_is_word : Stmt := top 7
abbrev N_is_word : List Str := ["value"]
theorem sc_is_word : FnScope N_is_word ["value"] (defScope s_is_word) := ⟨rfl, rfl, rfl, by decide +kernel, rfl, by decide +kernel, by decide +kernel⟩
abbrev s_is_number : Stmt := top 8
abbrev N_is_number : List Str := ["value", "least", "most"]
theorem sc_is_number : FnScope N_is_number ["value", "least", "most"] (defScope s_is_number) := ⟨rfl, rfl, rfl, by decide +kernel, rfl, by decide +kernel, by decide +kernel⟩
abbrev s_cell_of : Stmt := top 11
abbrev N_cell_of : List Str := ["word", "r", "s", "part", "value", "most"]
theorem sc_cell_of : FnScope N_cell_of ["word", "r", "s", "part"] (defScope s_cell_of) := ⟨rfl, rfl, rfl, by decide +kernel, rfl, by decide +kernel, by decide +kernel⟩
abbrev s_parted : Stmt := top 12
abbrev N_parted : List Str := ["cell"]
theorem sc_parted : FnScope N_parted ["cell"] (defScope s_parted) := ⟨rfl, rfl, rfl, by decide +kernel, rfl, by decide +kernel, by decide +kernel⟩
abbrev s_with_part : Stmt := top 13
abbrev N_with_part : List Str := ["cell", "part"]
theorem sc_with_part : FnScope N_with_part ["cell", "part"] (defScope s_with_part) := ⟨rfl, rfl, rfl, by decide +kernel, rfl, by decide +kernel, by decide +kernel⟩
abbrev s_law_bag : Stmt := top 15
abbrev N_law_bag : List Str := ["_law_script", "_law_mixed", "_law_piled"]
theorem sc_law_bag : FnScope N_law_bag ["_law_script"] (defScope s_law_bag) := ⟨rfl, rfl, rfl, by decide +kernel, rfl, by decide +kernel, by decide +kernel⟩
abbrev s_law_draw : Stmt := top 16
abbrev N_law_draw : List Str := ["_law_bag_here", "_law_sides", "_law_piled", "_law_digit", "_law_seed"]
theorem sc_law_draw : FnScope N_law_draw ["_law_bag_here", "_law_sides"] (defScope s_law_draw) := ⟨rfl, rfl, rfl, by decide +kernel, rfl, by decide +kernel, by decide +kernel⟩
abbrev s_law_of : Stmt := top 17
abbrev N_law_of : List Str := ["_law_bag_here", "_law_things"]
theorem sc_law_of : FnScope N_law_of ["_law_bag_here", "_law_things"] (defScope s_law_of) := ⟨rfl, rfl, rfl, by decide +kernel, rfl, by decide +kernel, by decide +kernel⟩
abbrev s_law_same : Stmt := top 18
abbrev N_law_same : List Str := ["_law_found", "_law_due", "_law_a", "_law_b"]
theorem sc_law_same : FnScope N_law_same ["_law_found", "_law_due"] (defScope s_law_same) := ⟨rfl, rfl, rfl, by decide +kernel, rfl, by decide +kernel, by decide +kernel⟩
abbrev s_law_field : Stmt := top 19
abbrev N_law_field : List Str := ["_law_e"]
theorem sc_law_field : FnScope N_law_field ["_law_e"] (defScope s_law_field) := ⟨rfl, rfl, rfl, by decide +kernel, rfl, by decide +kernel, by decide +kernel⟩
abbrev s_law_try : Stmt := top 20
abbrev N_law_try : List Str := ["_law_ask", "_law_e"]
theorem sc_law_try : FnScope N_law_try ["_law_ask"] (defScope s_law_try) := ⟨rfl, rfl, rfl, by decide +kernel, rfl, by decide +kernel, by decide +kernel⟩
abbrev s_law_why : Stmt := top 21
abbrev N_law_why : List Str := ["_law_ask", "_law_found"]
theorem sc_law_why : FnScope N_law_why ["_law_ask"] (defScope s_law_why) := ⟨rfl, rfl, rfl, by decide +kernel, rfl, by decide +kernel, by decide +kernel⟩
abbrev s_law_whys : Stmt := top 22
abbrev N_law_whys : List Str := ["_law_asks", "_law_ask"]
theorem sc_law_whys : FnScope N_law_whys ["_law_asks"] (defScope s_law_whys) := ⟨rfl, rfl, rfl, by decide +kernel, rfl, by decide +kernel, by decide +kernel⟩
abbrev s_law_odd : Stmt := top 23
abbrev N_law_odd : List Str := ["_law_bag_here", "_law_more"]
theorem sc_law_odd : FnScope N_law_odd ["_law_bag_here", "_law_more"] (defScope s_law_odd) := ⟨rfl, rfl, rfl, by decide +kernel, rfl, by decide +kernel, by decide +kernel⟩
abbrev s_law_number : Stmt := top 24
abbrev N_law_number : List Str := ["_law_bag_here"]
theorem sc_law_number : FnScope N_law_number ["_law_bag_here"] (defScope s_law_number) := ⟨rfl, rfl, rfl, by decide +kernel, rfl, by decide +kernel, by decide +kernel⟩
abbrev s_law_within : Stmt := top 25
abbrev N_law_within : List Str := ["_law_thing", "_law_low_y", "_law_high_y"]
theorem sc_law_within : FnScope N_law_within ["_law_thing", "_law_low_y", "_law_high_y"] (defScope s_law_within) := ⟨rfl, rfl, rfl, by decide +kernel, rfl, by decide +kernel, by decide +kernel⟩
abbrev s_law_codes : Stmt := top 26
abbrev N_law_codes : List Str := ["_law_found"]
theorem sc_law_codes : FnScope N_law_codes [] (defScope s_law_codes) := ⟨rfl, rfl, rfl, by decide +kernel, rfl, by decide +kernel, by decide +kernel⟩
abbrev s_law_fours : Stmt := top 27
abbrev N_law_fours : List Str := ["_law_number_y", "_law_items", "_law_size"]
theorem sc_law_fours : FnScope N_law_fours ["_law_number_y"] (defScope s_law_fours) := ⟨rfl, rfl, rfl, by decide +kernel, rfl, by decide +kernel, by decide +kernel⟩
abbrev s_law_cell_due : Stmt := top 28
abbrev N_law_cell_due : List Str := ["_law_values", "_law_spot", "_law_most_y"]
theorem sc_law_cell_due : FnScope N_law_cell_due ["_law_values"] (defScope s_law_cell_due) := ⟨rfl, rfl, rfl, by decide +kernel, rfl, by decide +kernel, by decide +kernel⟩
abbrev s_law_wrong_so : Stmt := top 29
abbrev N_law_wrong_so : List Str := ["_law_bag_here", "_law_own", "_law_a", "_law_b", "_law_c", "_law_values", "_law_spot", "_law_due", "_law_asks", "_law_bad"]
theorem sc_law_wrong_so : FnScope N_law_wrong_so ["_law_bag_here", "_law_own", "_law_a", "_law_b", "_law_c"] (defScope s_law_wrong_so) := ⟨rfl, rfl, rfl, by decide +kernel, rfl, by decide +kernel, by decide +kernel⟩
abbrev s_law_codes_so : Stmt := top 30
abbrev N_law_codes_so : List Str := ["_law_codes_here", "_law_asks", "_law_due"]
theorem sc_law_codes_so : FnScope N_law_codes_so ["_law_codes_here"] (defScope s_law_codes_so) := ⟨rfl, rfl, rfl, by decide +kernel, rfl, by decide +kernel, by decide +kernel⟩
abbrev s_law : Stmt := top 31
abbrev N_law : List Str := ["_law_script", "_law_bag_here", "_law_codes_here", "_law_turn", "_law_own", "_law_a", "_law_b", "_law_c", "_law_due", "_law_found", "_law_few", "_law_number_y", "_law_late", "_law_apart", "_law_put"]
theorem sc_law : FnScope N_law ["_law_script"] (defScope s_law) := ⟨rfl, rfl, rfl, by decide +kernel, rfl, by decide +kernel, by decide +kernel⟩
structure Fs where
  (a_is_word : Addr) (d_is_word : FuncData)
  (a_is_number : Addr) (d_is_number : FuncData)
  (a_cell_of : Addr) (d_cell_of : FuncData)
  (a_parted : Addr) (d_parted : FuncData)
  (a_with_part : Addr) (d_with_part : FuncData)
  (a_law_bag : Addr) (d_law_bag : FuncData)
  (a_law_draw : Addr) (d_law_draw : FuncData)
  (a_law_of : Addr) (d_law_of : FuncData)
  (a_law_same : Addr) (d_law_same : FuncData)
  (a_law_field : Addr) (d_law_field : FuncData)
  (a_law_try : Addr) (d_law_try : FuncData)
  (a_law_why : Addr) (d_law_why : FuncData)
  (a_law_whys : Addr) (d_law_whys : FuncData)
  (a_law_odd : Addr) (d_law_odd : FuncData)
  (a_law_number : Addr) (d_law_number : FuncData)
  (a_law_within : Addr) (d_law_within : FuncData)
  (a_law_codes : Addr) (d_law_codes : FuncData)
  (a_law_fours : Addr) (d_law_fours : FuncData)
  (a_law_cell_due : Addr) (d_law_cell_due : FuncData)
  (a_law_wrong_so : Addr) (d_law_wrong_so : FuncData)
  (a_law_codes_so : Addr) (d_law_codes_so : FuncData)
  (a_law : Addr) (d_law : FuncData)
  (c_CODES : Addr)
structure Txt (K : PySem.W.Frag) (w : World) (mg : Str → Option Value) (Z : Fs) : Prop where
  F_is_word : Fun K "is_word" "is_word" s_is_word Z.a_is_word Z.d_is_word
  m_is_word : mg "is_word" = some (.ref Z.a_is_word)
  b_is_word : Binds K Z.d_is_word ["value"] []
  F_is_number : Fun K "is_number" "is_number" s_is_number Z.a_is_number Z.d_is_number
  m_is_number : mg "is_number" = some (.ref Z.a_is_number)
  b_is_number : Binds K Z.d_is_number ["value", "least", "most"] []
  F_cell_of : FunD K "cell_of" "cell_of" (defArgs s_cell_of) (defBody s_cell_of) (defScope s_cell_of) [.int 0, .int 0, .int 0] [] Z.a_cell_of Z.d_cell_of
  m_cell_of : mg "cell_of" = some (.ref Z.a_cell_of)
  d_cell_of_4 : ∃ ds, Vals ([.int 0, .int 0, .int 0].drop 3) ds ∧ Binds K Z.d_cell_of ["word", "r", "s", "part"] ds
  d_cell_of_1_s : ∃ g, KBn K Z.d_cell_of ["word", "r", "s", "part"] 1 ["s"] g (fun us ws => [(us ++ ws).getD 0 .non, .int 0, (us ++ ws).getD 1 .non, .int 0])
  d_cell_of_1_part : ∃ g, KBn K Z.d_cell_of ["word", "r", "s", "part"] 1 ["part"] g (fun us ws => [(us ++ ws).getD 0 .non, .int 0, .int 0, (us ++ ws).getD 1 .non])
  d_cell_of_2 : ∃ ds, Vals ([.int 0, .int 0, .int 0].drop 1) ds ∧ Binds K Z.d_cell_of ["word", "r", "s", "part"] ds
  d_cell_of_1 : ∃ ds, Vals ([.int 0, .int 0, .int 0].drop 0) ds ∧ Binds K Z.d_cell_of ["word", "r", "s", "part"] ds
  d_cell_of_0_part_s_r_word : ∃ g, KBn K Z.d_cell_of ["word", "r", "s", "part"] 0 ["part", "s", "r", "word"] g (fun us ws => [(us ++ ws).getD 3 .non, (us ++ ws).getD 2 .non, (us ++ ws).getD 1 .non, (us ++ ws).getD 0 .non])
  d_cell_of_0_r_s_part_word : ∃ g, KBn K Z.d_cell_of ["word", "r", "s", "part"] 0 ["r", "s", "part", "word"] g (fun us ws => [(us ++ ws).getD 3 .non, (us ++ ws).getD 0 .non, (us ++ ws).getD 1 .non, (us ++ ws).getD 2 .non])
  F_parted : Fun K "parted" "parted" s_parted Z.a_parted Z.d_parted
  m_parted : mg "parted" = some (.ref Z.a_parted)
  b_parted : Binds K Z.d_parted ["cell"] []
  k_parted_0_cell : KBn K Z.d_parted ["cell"] 0 ["cell"] (fun us ws => [(us ++ ws).getD 0 .none]) (fun us ws => [(us ++ ws).getD 0 .non])
  F_with_part : Fun K "with_part" "with_part" s_with_part Z.a_with_part Z.d_with_part
  m_with_part : mg "with_part" = some (.ref Z.a_with_part)
  b_with_part : Binds K Z.d_with_part ["cell", "part"] []
  k_with_part_0_part_cell : KBn K Z.d_with_part ["cell", "part"] 0 ["part", "cell"] (fun us ws => [(us ++ ws).getD 1 .none, (us ++ ws).getD 0 .none]) (fun us ws => [(us ++ ws).getD 1 .non, (us ++ ws).getD 0 .non])
  F_law_bag : Fun K "_law_bag" "_law_bag" s_law_bag Z.a_law_bag Z.d_law_bag
  m_law_bag : mg "_law_bag" = some (.ref Z.a_law_bag)
  b_law_bag : Binds K Z.d_law_bag ["_law_script"] []
  F_law_draw : Fun K "_law_draw" "_law_draw" s_law_draw Z.a_law_draw Z.d_law_draw
  m_law_draw : mg "_law_draw" = some (.ref Z.a_law_draw)
  b_law_draw : Binds K Z.d_law_draw ["_law_bag_here", "_law_sides"] []
  F_law_of : Fun K "_law_of" "_law_of" s_law_of Z.a_law_of Z.d_law_of
  m_law_of : mg "_law_of" = some (.ref Z.a_law_of)
  b_law_of : Binds K Z.d_law_of ["_law_bag_here", "_law_things"] []
  F_law_same : Fun K "_law_same" "_law_same" s_law_same Z.a_law_same Z.d_law_same
  m_law_same : mg "_law_same" = some (.ref Z.a_law_same)
  b_law_same : Binds K Z.d_law_same ["_law_found", "_law_due"] []
  F_law_field : Fun K "_law_field" "_law_field" s_law_field Z.a_law_field Z.d_law_field
  m_law_field : mg "_law_field" = some (.ref Z.a_law_field)
  b_law_field : Binds K Z.d_law_field ["_law_e"] []
  F_law_try : Fun K "_law_try" "_law_try" s_law_try Z.a_law_try Z.d_law_try
  m_law_try : mg "_law_try" = some (.ref Z.a_law_try)
  b_law_try : Binds K Z.d_law_try ["_law_ask"] []
  F_law_why : Fun K "_law_why" "_law_why" s_law_why Z.a_law_why Z.d_law_why
  m_law_why : mg "_law_why" = some (.ref Z.a_law_why)
  b_law_why : Binds K Z.d_law_why ["_law_ask"] []
  F_law_whys : Fun K "_law_whys" "_law_whys" s_law_whys Z.a_law_whys Z.d_law_whys
  m_law_whys : mg "_law_whys" = some (.ref Z.a_law_whys)
  b_law_whys : Binds K Z.d_law_whys ["_law_asks"] []
  F_law_odd : Fun K "_law_odd" "_law_odd" s_law_odd Z.a_law_odd Z.d_law_odd
  m_law_odd : mg "_law_odd" = some (.ref Z.a_law_odd)
  b_law_odd : Binds K Z.d_law_odd ["_law_bag_here", "_law_more"] []
  F_law_number : Fun K "_law_number" "_law_number" s_law_number Z.a_law_number Z.d_law_number
  m_law_number : mg "_law_number" = some (.ref Z.a_law_number)
  b_law_number : Binds K Z.d_law_number ["_law_bag_here"] []
  F_law_within : Fun K "_law_within" "_law_within" s_law_within Z.a_law_within Z.d_law_within
  m_law_within : mg "_law_within" = some (.ref Z.a_law_within)
  b_law_within : Binds K Z.d_law_within ["_law_thing", "_law_low_y", "_law_high_y"] []
  F_law_codes : Fun K "_law_codes" "_law_codes" s_law_codes Z.a_law_codes Z.d_law_codes
  m_law_codes : mg "_law_codes" = some (.ref Z.a_law_codes)
  b_law_codes : Binds K Z.d_law_codes [] []
  F_law_fours : Fun K "_law_fours" "_law_fours" s_law_fours Z.a_law_fours Z.d_law_fours
  m_law_fours : mg "_law_fours" = some (.ref Z.a_law_fours)
  b_law_fours : Binds K Z.d_law_fours ["_law_number_y"] []
  F_law_cell_due : Fun K "_law_cell_due" "_law_cell_due" s_law_cell_due Z.a_law_cell_due Z.d_law_cell_due
  m_law_cell_due : mg "_law_cell_due" = some (.ref Z.a_law_cell_due)
  b_law_cell_due : Binds K Z.d_law_cell_due ["_law_values"] []
  F_law_wrong_so : Fun K "_law_wrong_so" "_law_wrong_so" s_law_wrong_so Z.a_law_wrong_so Z.d_law_wrong_so
  m_law_wrong_so : mg "_law_wrong_so" = some (.ref Z.a_law_wrong_so)
  b_law_wrong_so : Binds K Z.d_law_wrong_so ["_law_bag_here", "_law_own", "_law_a", "_law_b", "_law_c"] []
  F_law_codes_so : Fun K "_law_codes_so" "_law_codes_so" s_law_codes_so Z.a_law_codes_so Z.d_law_codes_so
  m_law_codes_so : mg "_law_codes_so" = some (.ref Z.a_law_codes_so)
  b_law_codes_so : Binds K Z.d_law_codes_so ["_law_codes_here"] []
  F_law : Fun K "law" "law" s_law Z.a_law Z.d_law
  m_law : mg "law" = some (.ref Z.a_law)
  b_law : Binds K Z.d_law ["_law_script"] []
  n_abs : mg "abs" = none
  n_all : mg "all" = none
  n_bool : mg "bool" = none
  n_int : mg "int" = none
  n_isinstance : mg "isinstance" = none
  n_len : mg "len" = none
  n_list : mg "list" = none
  n_range : mg "range" = none
  n_str : mg "str" = none
  n_tuple : mg "tuple" = none
  n_zip : mg "zip" = none
  g_MOST_WORD : ∃ t, mg "MOST_WORD" = some (.int 65535 t)
  g_CODES : mg "CODES" = some (.ref Z.c_CODES)
  v_CODES : ∀ H : Hp, SqT K H Z.c_CODES [.str "fault", .str "halt", .str "high", .str "low", .str "add", .str "take", .str "load", .str "store", .str "jump", .str "ifzero", .str "call", .str "near", .str "jumpby", .str "callby", .str "back", .str "out"]
  L_CODES : ∃ o, K.lookup Z.c_CODES = some o ∧ o.cls = .type "tuple" ∧ o.dict = none
abbrev s_E_InvalidName : Stmt := inClass (top 3) 0
abbrev s_E_InvalidNumber : Stmt := inClass (top 4) 0

section
variable {X : Cx} {CX : CXT} {k : Nat} {f : Addr} {fd : FuncData} {ps ks : List Str} {sp : Sp} {E : XK} {x : Str} {p pos : Pos} {kws : List Keyword} {tk : TA} {g : List Value → List Value → List Value} {gV : List V → List V → List V}
/-- f(k = v, ..), no value by place -/
theorem pe_callN0 (F : FnOk X.prog X.w X.K X.mg X.base CX k f fd ps sp) (hr : Room k X.A) (hg : Gl X x) (hm : X.mg x = some (.ref f)) (hk : PySem.W.keepIn X.K (.ref f) = true) (hb : KBn X.K fd ps 0 ks g gV) (hx : Passes CX X E) (hkw : PK X kws tk)
    (hall : (backToKw pos (keywordEach kws X.env)).all (·.1.isSome) = true := by rfl) (hks : (backToKw pos (keywordEach kws X.env)).filterMap (·.1) = ks := by rfl) (hdb : (x == ("__debug__" : Str)) = false := by decide)
    (hpl : ((backTo pos (starEach [] X.env)).any (·.1) || (backToKw pos (keywordEach kws X.env)).any (·.1.isNone)) = false := by rfl) :
    PE X (.Call (.Name x p) [] kws pos) (tCallN 0 ks.length sp gV E tNil tk) := by
  refine ⟨fun pins s σ H Q I h => ?_⟩
  refine wpAny_Call_Name_kw (ld_glob I hg hm ?_ hdb)
  refine PySem.W.callWith_KW0 (h₀ := X.base) I.ok.mod.kin hk hall ?_ hpl
  refine thn (hkw.run pos pins s σ H _ I h) fun ws s2 ⟨zs, H2, I2, rz, l1, l2, q2⟩ => ⟨I2.kIn, ?_⟩
  rw [hks]
  exact run_fnN (us := []) (vs := []) F hr hb hx I2 .nil rz rfl l2 q2
end
theorem getD_rel : ∀ {vs : List V} {us : List Value} (h : Vals vs us) (i : Nat), RelV (vs.getD i .non) (us.getD i .none)
  | _, _, .nil, _ => rfl
  | _, _, .cons r _, 0 => r
  | _, _, .cons _ t, i + 1 => getD_rel t i
theorem kbn_d_cell_of_4 {K : PySem.W.Frag} {f : Addr} {fd : FuncData} (F : FunD K "cell_of" "cell_of" (defArgs s_cell_of) (defBody s_cell_of) (defScope s_cell_of) [.int 0, .int 0, .int 0] [] f fd) : ∃ ds, Vals ([.int 0, .int 0, .int 0].drop 3) ds ∧ Binds K fd ["word", "r", "s", "part"] ds :=
  F.binds1 (ps := ["word", "r", "s", "part"]) 4 3 (fun z => nomatch z) rfl fun T kV doc pm an cdv ct us its l1 l2 => match us, its, l1, l2 with
  | [_, _, _, _], [_, _, _], _, _ => ⟨_, rfl, rfl⟩
theorem kbn_d_cell_of_1_s {K : PySem.W.Frag} {f : Addr} {fd : FuncData} (F : FunD K "cell_of" "cell_of" (defArgs s_cell_of) (defBody s_cell_of) (defScope s_cell_of) [.int 0, .int 0, .int 0] [] f fd) : ∃ g, KBn K fd ["word", "r", "s", "part"] 1 ["s"] g (fun us ws => [(us ++ ws).getD 0 .non, .int 0, (us ++ ws).getD 1 .non, .int 0]) := by
  obtain ⟨oc, od, dV, kV, doc, pm, an, cdv, ct, osl, rfl, lk, hcd, hD, hK⟩ := F.ex
  rcases hD with ⟨e, _⟩ | ⟨_, T, o, its, m, rfl, lT, oT, rT⟩
  · cases e
  · refine ⟨fun us ws => [(us ++ ws).getD 0 .none, its.getD 0 .none, (us ++ ws).getD 1 .none, its.getD 2 .none], fun s us ws X l1 l2 => ?_, fun r1 r2 => .cons (getD_rel (r1.append r2) 0) (.cons (getD_rel rT 0) (.cons (getD_rel (r1.append r2) 1) (.cons (getD_rel rT 2) (.nil))))⟩
    have l3 : its.length = 3 := rT.length.symm
    match us, ws, its, l1, l2, l3, oT with
    | [_], [_], [_, _, _], _, _, _, oT => exact BindsTo.of_looks fun M => looks_items X lT oT (.of_pure rfl)
theorem kbn_d_cell_of_1_part {K : PySem.W.Frag} {f : Addr} {fd : FuncData} (F : FunD K "cell_of" "cell_of" (defArgs s_cell_of) (defBody s_cell_of) (defScope s_cell_of) [.int 0, .int 0, .int 0] [] f fd) : ∃ g, KBn K fd ["word", "r", "s", "part"] 1 ["part"] g (fun us ws => [(us ++ ws).getD 0 .non, .int 0, .int 0, (us ++ ws).getD 1 .non]) := by
  obtain ⟨oc, od, dV, kV, doc, pm, an, cdv, ct, osl, rfl, lk, hcd, hD, hK⟩ := F.ex
  rcases hD with ⟨e, _⟩ | ⟨_, T, o, its, m, rfl, lT, oT, rT⟩
  · cases e
  · refine ⟨fun us ws => [(us ++ ws).getD 0 .none, its.getD 0 .none, its.getD 1 .none, (us ++ ws).getD 1 .none], fun s us ws X l1 l2 => ?_, fun r1 r2 => .cons (getD_rel (r1.append r2) 0) (.cons (getD_rel rT 0) (.cons (getD_rel rT 1) (.cons (getD_rel (r1.append r2) 1) (.nil))))⟩
    have l3 : its.length = 3 := rT.length.symm
    match us, ws, its, l1, l2, l3, oT with
    | [_], [_], [_, _, _], _, _, _, oT => exact BindsTo.of_looks fun M => looks_items X lT oT (.of_pure rfl)
theorem kbn_d_cell_of_2 {K : PySem.W.Frag} {f : Addr} {fd : FuncData} (F : FunD K "cell_of" "cell_of" (defArgs s_cell_of) (defBody s_cell_of) (defScope s_cell_of) [.int 0, .int 0, .int 0] [] f fd) : ∃ ds, Vals ([.int 0, .int 0, .int 0].drop 1) ds ∧ Binds K fd ["word", "r", "s", "part"] ds :=
  F.binds1 (ps := ["word", "r", "s", "part"]) 2 1 (fun z => nomatch z) rfl fun T kV doc pm an cdv ct us its l1 l2 => match us, its, l1, l2 with
  | [_, _], [_, _, _], _, _ => ⟨_, rfl, rfl⟩
theorem kbn_d_cell_of_1 {K : PySem.W.Frag} {f : Addr} {fd : FuncData} (F : FunD K "cell_of" "cell_of" (defArgs s_cell_of) (defBody s_cell_of) (defScope s_cell_of) [.int 0, .int 0, .int 0] [] f fd) : ∃ ds, Vals ([.int 0, .int 0, .int 0].drop 0) ds ∧ Binds K fd ["word", "r", "s", "part"] ds :=
  F.binds1 (ps := ["word", "r", "s", "part"]) 1 0 (fun z => nomatch z) rfl fun T kV doc pm an cdv ct us its l1 l2 => match us, its, l1, l2 with
  | [_], [_, _, _], _, _ => ⟨_, rfl, rfl⟩
theorem kbn_d_cell_of_0_part_s_r_word {K : PySem.W.Frag} {f : Addr} {fd : FuncData} (F : FunD K "cell_of" "cell_of" (defArgs s_cell_of) (defBody s_cell_of) (defScope s_cell_of) [.int 0, .int 0, .int 0] [] f fd) : ∃ g, KBn K fd ["word", "r", "s", "part"] 0 ["part", "s", "r", "word"] g (fun us ws => [(us ++ ws).getD 3 .non, (us ++ ws).getD 2 .non, (us ++ ws).getD 1 .non, (us ++ ws).getD 0 .non]) := by
  obtain ⟨oc, od, dV, kV, doc, pm, an, cdv, ct, osl, rfl, lk, hcd, hD, hK⟩ := F.ex
  rcases hD with ⟨e, _⟩ | ⟨_, T, o, its, m, rfl, lT, oT, rT⟩
  · cases e
  · refine ⟨fun us ws => [(us ++ ws).getD 3 .none, (us ++ ws).getD 2 .none, (us ++ ws).getD 1 .none, (us ++ ws).getD 0 .none], fun s us ws X l1 l2 => ?_, fun r1 r2 => .cons (getD_rel (r1.append r2) 3) (.cons (getD_rel (r1.append r2) 2) (.cons (getD_rel (r1.append r2) 1) (.cons (getD_rel (r1.append r2) 0) (.nil))))⟩
    have l3 : its.length = 3 := rT.length.symm
    match us, ws, its, l1, l2, l3, oT with
    | [], [_, _, _, _], [_, _, _], _, _, _, oT => exact BindsTo.of_looks fun M => looks_items X lT oT (.of_pure rfl)
theorem kbn_d_cell_of_0_r_s_part_word {K : PySem.W.Frag} {f : Addr} {fd : FuncData} (F : FunD K "cell_of" "cell_of" (defArgs s_cell_of) (defBody s_cell_of) (defScope s_cell_of) [.int 0, .int 0, .int 0] [] f fd) : ∃ g, KBn K fd ["word", "r", "s", "part"] 0 ["r", "s", "part", "word"] g (fun us ws => [(us ++ ws).getD 3 .non, (us ++ ws).getD 0 .non, (us ++ ws).getD 1 .non, (us ++ ws).getD 2 .non]) := by
  obtain ⟨oc, od, dV, kV, doc, pm, an, cdv, ct, osl, rfl, lk, hcd, hD, hK⟩ := F.ex
  rcases hD with ⟨e, _⟩ | ⟨_, T, o, its, m, rfl, lT, oT, rT⟩
  · cases e
  · refine ⟨fun us ws => [(us ++ ws).getD 3 .none, (us ++ ws).getD 0 .none, (us ++ ws).getD 1 .none, (us ++ ws).getD 2 .none], fun s us ws X l1 l2 => ?_, fun r1 r2 => .cons (getD_rel (r1.append r2) 3) (.cons (getD_rel (r1.append r2) 0) (.cons (getD_rel (r1.append r2) 1) (.cons (getD_rel (r1.append r2) 2) (.nil))))⟩
    have l3 : its.length = 3 := rT.length.symm
    match us, ws, its, l1, l2, l3, oT with
    | [], [_, _, _, _], [_, _, _], _, _, _, oT => exact BindsTo.of_looks fun M => looks_items X lT oT (.of_pure rfl)
theorem kbn_k_parted_0_cell {K : PySem.W.Frag} {f : Addr} {fd : FuncData} (F : Fun K "parted" "parted" s_parted f fd) : KBn K fd ["cell"] 0 ["cell"] (fun us ws => [(us ++ ws).getD 0 .none]) (fun us ws => [(us ++ ws).getD 0 .non]) := by
  obtain ⟨oc, od, kV, doc, pm, an, cdv, ct, osl, rfl, lk, hcd⟩ := F.ex
  refine ⟨fun s us ws _ l1 l2 => ?_, fun r1 r2 => .cons (getD_rel (r1.append r2) 0) (.nil)⟩
  match us, ws, l1, l2 with
  | [], [_], _, _ => exact .of_eq rfl
theorem kbn_k_with_part_0_part_cell {K : PySem.W.Frag} {f : Addr} {fd : FuncData} (F : Fun K "with_part" "with_part" s_with_part f fd) : KBn K fd ["cell", "part"] 0 ["part", "cell"] (fun us ws => [(us ++ ws).getD 1 .none, (us ++ ws).getD 0 .none]) (fun us ws => [(us ++ ws).getD 1 .non, (us ++ ws).getD 0 .non]) := by
  obtain ⟨oc, od, kV, doc, pm, an, cdv, ct, osl, rfl, lk, hcd⟩ := F.ex
  refine ⟨fun s us ws _ l1 l2 => ?_, fun r1 r2 => .cons (getD_rel (r1.append r2) 1) (.cons (getD_rel (r1.append r2) 0) (.nil))⟩
  match us, ws, l1, l2 with
  | [], [_, _], _, _ => exact .of_eq rfl

/-! ### readings answered construct by construct -/
namespace Go
section
variable {K : PySem.W.Frag} {σ σ' : L2.St} {H : Hp} {Q : VK} {N : L2.St → Hp → Prop} {R : VK} {B C : L2.St → Hp → Prop} {E : XK}
theorem var {i : Nat} {v : V} (h : σ[i]? = some (some v)) (q : Q v H) : tVar i σ H Q := ⟨v, h, q⟩
theorem cst {v : V} (q : Q v H) : tC v σ H Q := q
theorem op {r : R2} {ta tb : TE} (q : ta σ H fun x H1 => tb σ H1 fun y H2 => r x y H2 Q) : tOp r ta tb σ H Q := q
theorem un {r : V → Hp → VK → Prop} {ta : TE} (q : ta σ H fun x H1 => r x H1 Q) : tUn r ta σ H Q := q
theorem cb {r : List V → Hp → VK → Prop} {t : TA} (q : t σ H fun vs H1 => r vs H1 Q) : tCB r t σ H Q := q
theorem nil {Q : List V → Hp → Prop} (q : Q [] H) : tNil σ H Q := q
theorem cons {ta : TE} {tr : TA} {Q : List V → Hp → Prop} (q : ta σ H fun x H1 => tr σ H1 fun xs H2 => Q (x :: xs) H2) : tCons ta tr σ H Q := q
theorem call {sp : Sp} {t : TA} (q : t σ H fun vs H1 => sp vs H1 Q E) : tCall sp [] E t σ H Q := by
  unfold tCall
  simpa only [List.append_nil] using q
/-- both ways of a test -/
def Way (b : Bool) (x y : Prop) : Prop := (b = true → x) ∧ (b = false → y)
theorem way_if {b : Bool} {x y : Prop} : (if b = true then x else y) = Way b x y := by
  cases b <;> simp [Way]
theorem wT {x y : Prop} (h : x) : Way true x y := ⟨fun _ => h, fun e => nomatch e⟩
theorem wF {x y : Prop} (h : y) : Way false x y := ⟨(fun e => nomatch e), fun _ => h⟩
theorem wd {p : Prop} {d : Decidable p} {x y : Prop} (h : p → x) (k : ¬ p → y) : Way (@decide p d) x y := ⟨fun e => h (of_decide_eq_true e), fun e => k (of_decide_eq_false e)⟩
theorem wn {b : Bool} {x y : Prop} (h : Way b y x) : Way (!b) x y := by
  cases b
  · exact ⟨fun _ => h.2 rfl, fun e => nomatch e⟩
  · exact ⟨(fun e => nomatch e), fun _ => h.1 rfl⟩
theorem wayT {b : Bool} {x y : Prop} (e : b = true) (h : x) : Way b x y := by
  subst e
  exact wT h
theorem wayF {b : Bool} {x y : Prop} (e : b = false) (h : y) : Way b x y := by
  subst e
  exact wF h
theorem wayE {b c : Bool} {x y : Prop} (e : b = c) (h : Way c x y) : Way b x y := e ▸ h
theorem bE {b c : Bool} {Q : VK} {H : Hp} (e : b = c) (h : Q (.bl c) H) : Q (.bl b) H := e ▸ h
theorem wb {b : Bool} {x y : Prop} (h : b = true → x) (k : b = false → y) : Way b x y := ⟨h, k⟩
def IsBl (x : V) (p : Bool → Prop) : Prop := ∃ k, x = .bl k ∧ p k
theorem isBl {b : Bool} {p : Bool → Prop} (h : p b) : IsBl (.bl b) p := ⟨b, rfl, h⟩
theorem test {te : TE} {Q : Bool → Hp → Prop} (q : te σ H fun x H1 => IsBl x fun k => Q k H1) : tTest te σ H Q := q
theorem tb {te : TE} {Q : Bool → Hp → Prop} (q : te σ H fun x H1 => IsBl x fun k => Q k H1) : tB te σ H Q := q
theorem and {t u : TT} {Q : Bool → Hp → Prop} (q : t σ H fun c H1 => Way c (u σ H1 Q) (Q false H1)) : tAnd t u σ H Q := by
  unfold tAnd
  simpa only [way_if] using q
theorem or {t u : TT} {Q : Bool → Hp → Prop} (q : t σ H fun c H1 => Way c (Q true H1) (u σ H1 Q)) : tOr t u σ H Q := by
  unfold tOr
  simpa only [way_if] using q
theorem not {t : TT} {Q : Bool → Hp → Prop} (q : t σ H fun c H1 => Q (!c) H1) : tNot t σ H Q := q
theorem andV {ta tb : TE} (q : ta σ H fun x H1 => IsBl x fun c => Way c (tb σ H1 Q) (Q (.bl false) H1)) : tAndV ta tb σ H Q := by
  unfold tAndV
  simp only [way_if]
  exact q
theorem orV {ta tb : TE} (q : ta σ H fun x H1 => IsBl x fun c => Way c (Q (.bl true) H1) (tb σ H1 Q)) : tOrV ta tb σ H Q := by
  unfold tOrV
  simp only [way_if]
  exact q
theorem notV {ta : TE} (q : ta σ H fun x H1 => IsBl x fun c => Q (.bl (!c)) H1) : tNotV ta σ H Q := q
theorem ife {t : TT} {ta tb : TE} (q : t σ H fun c H1 => Way c (ta σ H1 Q) (tb σ H1 Q)) : tIf t ta tb σ H Q := by
  unfold tIf
  simpa only [way_if] using q
theorem chain {r r' : R2} {ta tb tc : TE} (q : ta σ H fun x H1 => tb σ H1 fun y H2 => r x y H2 fun z H3 => IsBl z fun k => Way k (tc σ H3 fun v H4 => r' y v H4 Q) (Q (.bl false) H3)) : tChain r r' ta tb tc σ H Q := by
  unfold tChain
  simp only [way_if]
  exact q
theorem isN {ta : TE} (q : ta σ H fun x H1 => Q (.bl (decide (x = .non))) H1) : tIsN ta σ H Q := q
theorem notN {ta : TE} (q : ta σ H fun x H1 => Q (.bl (!decide (x = .non))) H1) : tNotN ta σ H Q := q
/-! statements -/
theorem next (q : N σ H) : tNext ⟨N, R, B, C⟩ σ H := q
theorem seq {t u : TS} (q : t ⟨u ⟨N, R, B, C⟩, R, B, C⟩ σ H) : tSeq t u ⟨N, R, B, C⟩ σ H := q
theorem drop {te : TE} (q : te σ H fun _ H1 => N σ H1) : tDrop te ⟨N, R, B, C⟩ σ H := q
theorem ret {te : TE} (q : te σ H R) : tRet te ⟨N, R, B, C⟩ σ H := q
theorem retN (q : R .non H) : tRetN ⟨N, R, B, C⟩ σ H := q
theorem ifS {c : TT} {t u : TS} {D : Ends} (q : c σ H fun b H1 => Way b (t D σ H1) (u D σ H1)) : tIfS c t u D σ H := by
  unfold tIfS
  simpa only [way_if] using q
theorem brk (q : B σ H) : tBreak ⟨N, R, B, C⟩ σ H := q
theorem cont (q : C σ H) : tCont ⟨N, R, B, C⟩ σ H := q
theorem asg {te : TE} {g : TG} (q : te σ H fun x H1 => g x σ H1 N) : tAsg te g ⟨N, R, B, C⟩ σ H := q
theorem name {i : Nat} {v : V} {Q : L2.St → Hp → Prop} (h : σ.set i (some v) = σ') (q : Q σ' H) : gName i v σ H Q := by
  subst h
  exact q
theorem sub {to ti : TE} {t : TSet} {v : V} {Q : L2.St → Hp → Prop} (q : to σ H fun o H1 => ti σ H1 fun i H2 => t o i v H2 fun H3 => Q σ H3) : gSub to ti t v σ H Q := q
theorem gtup {n : Nat} {t : TGs} {a : Addr} {xs : List V} {Q : L2.St → Hp → Prop} (h : SqT K H a xs) (l : xs.length = n) (q : t xs σ H Q) : gTup K n t (.ref a) σ H Q := ⟨a, xs, rfl, h, l, q⟩
theorem gnil {Q : L2.St → Hp → Prop} (q : Q σ H) : gNil [] σ H Q := ⟨rfl, q⟩
theorem gcons {t : TG} {u : TGs} {v : V} {r : List V} {Q : L2.St → Hp → Prop} (q : t v σ H fun σ1 H1 => u r σ1 H1 Q) : gCons t u (v :: r) σ H Q := ⟨v, r, rfl, q⟩
def Two (σ : L2.St) (i j : Nat) (vs : List V) (k : L2.St → Prop) : Prop := ∃ v w, vs = [v, w] ∧ k ((σ.set i (some v)).set j (some w))
theorem par {i j : Nat} {ta : TA} (q : ta σ H fun vs H1 => Two σ i j vs fun σ1 => N σ1 H1) : tPar i j ta ⟨N, R, B, C⟩ σ H := q
theorem par2 {i j : Nat} {v w : V} {k : L2.St → Prop} (h : (σ.set i (some v)).set j (some w) = σ') (q : k σ') : Two σ i j [v, w] k := by
  subst h
  exact ⟨v, w, rfl, q⟩
def Three (σ : L2.St) (i j l : Nat) (vs : List V) (k : L2.St → Prop) : Prop := ∃ u v w, vs = [u, v, w] ∧ k (((σ.set i (some u)).set j (some v)).set l (some w))
theorem par3 {i j l : Nat} {ta : TA} (q : ta σ H fun vs H1 => Three σ i j l vs fun σ1 => N σ1 H1) : tPar3 i j l ta ⟨N, R, B, C⟩ σ H := q
theorem par33 {i j l : Nat} {u v w : V} {k : L2.St → Prop} (h : ((σ.set i (some u)).set j (some v)).set l (some w) = σ') (q : k σ') : Three σ i j l [u, v, w] k := by
  subst h
  exact ⟨u, v, w, rfl, q⟩
/-! operators -/
theorem i0 {g : Int → Int → V} {i j : Int} (q : Q (g i j) H) : rI0 g (.int i) (.int j) H Q := ⟨i, j, rfl, rfl, q⟩
theorem i1 {c : Int → Int → Prop} {g : Int → Int → V} {i j : Int} (h : c i j) (q : Q (g i j) H) : rI c g (.int i) (.int j) H Q := ⟨i, j, rfl, rfl, h, q⟩
theorem u1 {g : Int → V} {i : Int} (q : Q (g i) H) : rU g (.int i) H Q := ⟨i, rfl, q⟩
theorem eqI {i j : Int} (q : Q (.bl (decide (i = j))) H) : rEq (.int i) (.int j) H Q := by
  refine ⟨rfl, ?_⟩
  have e : decide (V.int i = V.int j) = decide (i = j) := by rw [Bool.eq_iff_iff]; simp
  rw [e]
  exact q
theorem neI {i j : Int} (q : Q (.bl (!decide (i = j))) H) : rNe (.int i) (.int j) H Q := by
  refine ⟨rfl, ?_⟩
  have e : decide (V.int i = V.int j) = decide (i = j) := by rw [Bool.eq_iff_iff]; simp
  rw [e]
  exact q
theorem eqS {i j : Str} (q : Q (.bl (decide (i = j))) H) : rEq (.str i) (.str j) H Q := by
  refine ⟨rfl, ?_⟩
  have e : decide (V.str i = V.str j) = decide (i = j) := by rw [Bool.eq_iff_iff]; simp
  rw [e]
  exact q
theorem neS {i j : Str} (q : Q (.bl (!decide (i = j))) H) : rNe (.str i) (.str j) H Q := by
  refine ⟨rfl, ?_⟩
  have e : decide (V.str i = V.str j) = decide (i = j) := by rw [Bool.eq_iff_iff]; simp
  rw [e]
  exact q
theorem eqB {i j : Bool} (q : Q (.bl (decide (i = j))) H) : rEq (.bl i) (.bl j) H Q := by
  refine ⟨rfl, ?_⟩
  have e : decide (V.bl i = V.bl j) = decide (i = j) := by rw [Bool.eq_iff_iff]; simp
  rw [e]
  exact q
theorem neB {i j : Bool} (q : Q (.bl (!decide (i = j))) H) : rNe (.bl i) (.bl j) H Q := by
  refine ⟨rfl, ?_⟩
  have e : decide (V.bl i = V.bl j) = decide (i = j) := by rw [Bool.eq_iff_iff]; simp
  rw [e]
  exact q
theorem ixL {p : Addr} {xs : List V} {i : Int} {v : V} (h : SqL K H p xs) (g : atI xs i = some v) (q : Q v H) : rIxL K (.ref p) (.int i) H Q := ⟨p, xs, i, v, rfl, rfl, h, g, q⟩
theorem ixT {p : Addr} {xs : List V} {i : Int} {v : V} (h : SqT K H p xs) (g : atI xs i = some v) (q : Q v H) : rIxT K (.ref p) (.int i) H Q := ⟨p, xs, i, v, rfl, rfl, h, g, q⟩
/-! what is made and what is written -/
/-- all that was tracked, what stands at p apart, is as it was -/
def But (p : Addr) (H H1 : Hp) : Prop := ∀ a o, a ≠ p → H a = some o → H1 a = some o
theorem Sn {p : Addr} {o : HO} (h : H p = none) : Same H (upd H p o) := fun a u e => by rw [upd_ne (ne_of_none e h)]; exact e
def New (o : HO) (H1 : Hp) (k : Addr → Hp → Prop) : Prop := ∀ p, H1 p = none → k p (upd H1 p o)
theorem new {o : HO} {H1 : Hp} {k : Addr → Hp → Prop} (q : ∀ p H2, H1 p = none → Same H1 H2 → H2 p = some o → k p H2) : New o H1 k := fun p h => q p _ h (Sn h) upd_same
def Wr (p : Addr) (o : HO) (H1 : Hp) (k : Hp → Prop) : Prop := k (upd H1 p o)
theorem wr {p : Addr} {o : HO} {H1 : Hp} {k : Hp → Prop} (q : ∀ H2, But p H1 H2 → H2 p = some o → k H2) : Wr p o H1 k := q _ (fun a u n h => by rw [upd_ne n]; exact h) upd_same
theorem lst {t : TA} (q : t σ H fun xs H1 => xs.length ≤ sizeLine ∧ New (.lst xs) H1 fun p H2 => Q (.ref p) H2) : tLst t σ H Q := q
theorem tup {t : TA} (q : t σ H fun xs H1 => xs.length ≤ sizeLine ∧ New (.tup xs) H1 fun p H2 => Q (.ref p) H2) : tTup t σ H Q := q
theorem setL {p : Addr} {xs ys : List V} {k : Int} {j : Nat} {v : V} {Q : Hp → Prop} (h : H p = some (.lst xs)) (g : ixN xs.length k = some j) (e : xs.set j v = ys) (q : Wr p (.lst ys) H Q) : rSetL (.ref p) (.int k) v H Q := by
  subst e
  exact ⟨p, xs, k, j, rfl, rfl, h, g, q⟩
theorem slL {a : Addr} {xs ys : List V} {lo hi : Option Int} (h : SqL K H a xs) (e : cutV xs lo hi = ys) (q : New (.lst ys) H fun p H1 => Q (.ref p) H1) : rSlL K (.ref a) lo hi H Q := by
  subst e
  exact ⟨a, xs, rfl, h, q⟩
theorem slS {z : Str} {lo hi : Option Int} (h : z.cps.size ≤ sizeLine) (q : Q (.str (cutS z lo hi)) H) : rSlS (.str z) lo hi H Q := ⟨z, rfl, h, q⟩
theorem sl {r : V → Option Int → Option Int → Hp → VK → Prop} {te : TE} {tl th : TO} (q : te σ H fun x H1 => tl σ H1 fun l H2 => th σ H2 fun u H3 => r x l u H3 Q) : tSl r te tl th σ H Q := q
theorem noPart {Q : Option Int → Hp → Prop} (q : Q none H) : tNoPart σ H Q := q
def IsI (x : V) (p : Int → Prop) : Prop := ∃ i, x = .int i ∧ p i
theorem isI {i : Int} {p : Int → Prop} (h : p i) : IsI (.int i) p := ⟨i, rfl, h⟩
theorem part {t : TE} {Q : Option Int → Hp → Prop} (q : t σ H fun x H1 => IsI x fun i => Q (some i) H1) : tPart t σ H Q := q
theorem app {p : Addr} {xs ys : List V} {y : V} (h : H p = some (.lst xs)) (l : xs.length < sizeLine) (e : xs ++ [y] = ys) (q : Wr p (.lst ys) H fun H1 => Q .non H1) : rAppend (.ref p) [y] H Q := by
  subst e
  exact ⟨p, xs, y, rfl, rfl, h, l, q⟩
theorem bm {T : String} {r : V → List V → Hp → VK → Prop} {to : TE} {t : TA} (q : to σ H fun x H1 => tyV K T x H1 ∧ t σ H1 fun xs H2 => r x xs H2 Q) : tBM K T r to t σ H Q := q
theorem bm0 {T : String} {r : V → List V → Hp → VK → Prop} {to : TE} (q : to σ H fun x H1 => tyV K T x H1 ∧ r x [] H1 Q) : tBM0 K T r to σ H Q := q
/-! built-in functions, their readings named -/
def RLen (K : PySem.W.Frag) : List V → Hp → VK → Prop := fun xs H Q => ∃ x n, xs = [x] ∧ LenV K x H n ∧ Q (.int n) H
theorem lenL {a : Addr} {xs : List V} (h : SqL K H a xs) (q : Q (.int (xs.length : Nat)) H) : RLen K [.ref a] H Q := ⟨.ref a, xs.length, rfl, .inl ⟨_, h, rfl⟩, q⟩
theorem lenT {a : Addr} {xs : List V} (h : SqT K H a xs) (q : Q (.int (xs.length : Nat)) H) : RLen K [.ref a] H Q := ⟨.ref a, xs.length, rfl, .inr ⟨_, h, rfl⟩, q⟩
theorem lenS {z : Str} (h : z.cps.size ≤ sizeLine) (q : Q (.int (z.cps.size : Nat)) H) : RLen K [.str z] H Q := ⟨.str z, z.cps.size, rfl, ⟨h, rfl⟩, q⟩
def RInt : List V → Hp → VK → Prop := fun xs H Q => (∃ i, xs = [V.int i] ∧ Q (V.int i) H) ∨ ∃ k, xs = [V.bl k] ∧ Q (V.int (if k = true then 1 else 0)) H
theorem intI {i : Int} (q : Q (.int i) H) : RInt [.int i] H Q := .inl ⟨i, rfl, q⟩
def RAbs : List V → Hp → VK → Prop := fun xs H Q => ∃ i, xs = [V.int i] ∧ Q (V.int (if i < 0 then -i else i)) H
theorem absI {i : Int} (q : ∀ j : Int, 0 ≤ j → (j = i ∨ j = -i) → Q (.int j) H) : RAbs [.int i] H Q := ⟨i, rfl, q _ (by split <;> omega) (by split <;> omega)⟩
def RList (K : PySem.W.Frag) : List V → Hp → VK → Prop := fun xs H Q => ∃ p ys, xs = [.ref p] ∧ (SqL K H p ys ∨ SqT K H p ys) ∧ New (.lst ys) H fun l H1 => Q (.ref l) H1
theorem listL {a : Addr} {xs : List V} (h : SqL K H a xs) (q : New (.lst xs) H fun l H1 => Q (.ref l) H1) : RList K [.ref a] H Q := ⟨a, xs, rfl, .inl h, q⟩
theorem listT {a : Addr} {xs : List V} (h : SqT K H a xs) (q : New (.lst xs) H fun l H1 => Q (.ref l) H1) : RList K [.ref a] H Q := ⟨a, xs, rfl, .inr h, q⟩
theorem isi {x c : V} {t u : Value} {b : Bool} (h1 : ClsV c u) (h2 : TyX K H x t) (h3 : PySem.W.kitOne K t u = some b) (q : Q (.bl b) H) : rIsi K [x, c] H Q := ⟨x, c, t, u, b, rfl, h1, h2, h3, q⟩
end
theorem c_len {X : Cx} : CallR X (.builtin "len") (RLen X.K) := call_len
theorem c_list {X : Cx} : CallR X (.type "list") (RList X.K) := call_list_of
theorem c_abs {X : Cx} : CallR X (.builtin "abs") RAbs := call_abs
theorem c_int {X : Cx} : CallR X (.type "int") RInt := call_int1
theorem cut {t u : TS} {σ : L2.St} {H : Hp} {N : L2.St → Hp → Prop} {R : VK} {B C : L2.St → Hp → Prop} (M : L2.St → Hp → Prop) (q : t ⟨M, R, B, C⟩ σ H) (k : ∀ σ1 H1, M σ1 H1 → u ⟨N, R, B, C⟩ σ1 H1) : C8.tCut t u ⟨N, R, B, C⟩ σ H := ⟨M, q, k⟩
section
variable {K : PySem.W.Frag} {H H1 H2 : Hp} {a b p q : Addr} {o : HO} {xs : List V}
theorem But.refl : But b H H := fun _ _ _ h => h
theorem But.trans (x : But b H H1) (y : But b H1 H2) : But b H H2 := fun a o n h => y a o n (x a o n h)
theorem sb (x : Same H H1) : But b H H1 := fun a o _ h => x a o h
/-- what was made behind H is changed: nothing for H -/
theorem But.own (x : But b H H1) (n : H q = none) (y : But q H1 H2) : But b H H2 := fun a o ne h => y a o (ne_of_none h n) (x a o ne h)
theorem Same.own (x : Same H H1) (n : H q = none) (y : But q H1 H2) : Same H H2 := fun a o h => y a o (ne_of_none h n) (x a o h)
theorem freeS (s : Same H H1) (h : H1 q = none) : H q = none := by
  cases e : H q with
  | none => rfl
  | some o =>
    rw [s q o e] at h
    cases h
theorem freeB (s : But b H H1) (n : q ≠ b) (h : H1 q = none) : H q = none := by
  cases e : H q with
  | none => rfl
  | some o =>
    rw [s q o n e] at h
    cases h
theorem oS (s : Same H H1) (h : H p = some o) : H1 p = some o := s _ _ h
theorem oB (s : But b H H1) (n : p ≠ b) (h : H p = some o) : H1 p = some o := s _ _ n h
theorem lS (s : Same H H1) (h : SqL K H a xs) : SqL K H1 a xs := s.seq h
theorem lB (s : But b H H1) (n : a ≠ b) (h : SqL K H a xs) : SqL K H1 a xs := by
  rcases h with (h | ⟨o, h⟩) | h
  · exact .inl (.inl (s _ _ n h))
  · exact .inl (.inr ⟨o, s _ _ n h⟩)
  · exact .inr h
theorem tS (s : Same H H1) (h : SqT K H a xs) : SqT K H1 a xs := by
  rcases h with (h | ⟨o, h⟩) | h
  · exact .inl (.inl (s _ _ h))
  · exact .inl (.inr ⟨o, s _ _ h⟩)
  · exact .inr h
theorem tB (s : But b H H1) (n : a ≠ b) (h : SqT K H a xs) : SqT K H1 a xs := by
  rcases h with (h | ⟨o, h⟩) | h
  · exact .inl (.inl (s _ _ n h))
  · exact .inl (.inr ⟨o, s _ _ n h⟩)
  · exact .inr h
end
/-! ### walks -/
def ForG (J : It) (g : TG) (tb : TS) : TS := fun D σ H => ∃ W : Nat → Nat → L2.St → Hp → Prop, (∃ m, W 0 m σ H) ∧ ∀ i m σ H, W i m σ H →
  (J.stop i H ∧ D.nx σ H) ∨ (J.go i H ∧ ∃ N : L2.St → Hp → Prop, (∀ σ' H', N σ' H' → ∃ m', m' < m ∧ W (i + 1) m' σ' H') ∧ ∀ x H', J.yld i H x H' → g x σ H' fun σ2 H2 => tb { D with nx := N, ct := N, bk := D.nx } σ2 H2)
def LcG (J : It) (g : TG) (tt : TT) (te : TE) (vs : List Nat) : L2.St → Hp → VK → Prop := fun σ H1 Q => ∀ D, H1 D = none → ∃ W : Nat → Nat → Hp → Prop, (∃ m, W 0 m (upd H1 D (.lst []))) ∧ ∀ i m H, W i m H →
  (J.stop i H ∧ Q (.ref D) H) ∨ (J.go i H ∧ ∃ Nx : Hp → Prop, (∀ H', Nx H' → ∃ m', m' < m ∧ W (i + 1) m' H') ∧ ∀ x H', J.yld i H x H' → g x (wipe σ vs) H' fun σ2 H2 => wipe σ2 vs = wipe σ vs ∧ tt σ2 H2 fun b H3 =>
    if b = true then te σ2 H3 fun y H4 => ∃ acc, H4 D = some (.lst acc) ∧ acc.length < sizeLine ∧ Nx (upd H4 D (.lst (acc ++ [y]))) else Nx H3)
def LcEnd (D : Addr) (I : Hp → Prop) (y : V) (H4 : Hp) : Prop := ∃ acc, H4 D = some (.lst acc) ∧ acc.length < sizeLine ∧ I (upd H4 D (.lst (acc ++ [y])))
section
variable {K : PySem.W.Frag} {σ : L2.St} {H H1 : Hp} {Q : VK} {N : L2.St → Hp → Prop} {R : VK} {B C : L2.St → Hp → Prop} {J : It} {n : Nat} {G : Hp → Prop} {Y : Nat → Hp → V → Hp → Prop} {g : TG} {tb : TS} {tt : TT} {te : TE} {vs : List Nat} {a : Addr} {xs ys : List V}
theorem forr {wi : TI} {D : Ends} (q : wi σ H fun J H1 => ForG J g tb D σ H1) : tFor wi g tb D σ H := q
theorem for_w (w : Walk J n G Y) (I : Nat → L2.St → Hp → Prop) (h0 : I 0 σ H) (hG : ∀ i σ1 H1, i ≤ n → I i σ1 H1 → G H1)
    (hs : ∀ i x σ1 H1 H2, i < n → I i σ1 H1 → Y i H1 x H2 → g x σ1 H2 fun σ2 H3 => tb ⟨I (i + 1), R, N, I (i + 1)⟩ σ2 H3) (hd : ∀ σ1 H1, I n σ1 H1 → N σ1 H1) : ForG J g tb ⟨N, R, B, C⟩ σ H :=
  for_it w (D := ⟨N, R, B, C⟩) I h0 hG (fun i x σ1 H1 H2 hi h y => hs i x σ1 H1 H2 hi h y) hd
theorem lc {wi : TI} (q : wi σ H fun J H1 => LcG J g tt te vs σ H1 Q) : tLc wi g tt te vs σ H Q := q
theorem yes {Q : Bool → Hp → Prop} (q : Q true H) : tYes σ H Q := q
theorem lcEnd {D : Addr} {I : Hp → Prop} {y : V} {acc : List V} (h : H D = some (.lst acc)) (l : acc.length < sizeLine) (q : ∀ H2, But D H H2 → H2 D = some (.lst (acc ++ [y])) → I H2) : LcEnd D I y H := ⟨acc, h, l, q _ (fun a o n e => by rw [upd_ne n]; exact e) upd_same⟩
theorem lc_w {σ0 : L2.St} (w : Walk J n G Y) (I : Addr → Nat → Hp → Prop) (ew : wipe σ vs = σ0) (h0 : ∀ D H2, H1 D = none → Same H1 H2 → H2 D = some (.lst []) → I D 0 H2)
    (hG : ∀ D i H, i ≤ n → I D i H → G H)
    (hs : ∀ D i x H H', i < n → I D i H → Y i H x H' → g x σ0 H' fun σ2 H2 => wipe σ2 vs = σ0 ∧ tt σ2 H2 fun b H3 => Way b (te σ2 H3 fun y H4 => LcEnd D (I D (i + 1)) y H4) (I D (i + 1) H3))
    (hd : ∀ D H, I D n H → Q (.ref D) H) : LcG J g tt te vs σ H1 Q := by
  subst ew
  intro D hD
  refine lc_it w (I D) (h0 D _ hD (Sn hD) upd_same) (hG D) ?_ (hd D)
  intro i x H H' hi h y
  have q := hs D i x H H' hi h y
  simp only [← way_if] at q
  exact q
theorem lt_line {m : Nat} (h : m ≤ 100000) : m < sizeLine := Nat.lt_of_le_of_lt h (by decide)
theorem le_line {m : Nat} (h : m ≤ 100000) : m ≤ sizeLine := Nat.le_of_lt (lt_line h)
theorem okW {p q : Prop} (h : p) (k : q) : p ∧ q := ⟨h, k⟩
def AtR (x : V) (k : Addr → Prop) : Prop := ∃ a, x = .ref a ∧ k a
theorem atR {k : Addr → Prop} (h : k a) : AtR (.ref a) k := ⟨a, rfl, h⟩
theorem itL {tl : TE} {T : It → Hp → Prop} (q : tl σ H fun x H1 => AtR x fun a => (∃ xs, SqL K H1 a xs) ∧ T (Itl K a) H1) : iList K tl σ H T := q
theorem itT {tl : TE} {T : It → Hp → Prop} (q : tl σ H fun x H1 => AtR x fun a => (∃ xs, SqT K H1 a xs) ∧ T (Itt K a) H1) : iTup K tl σ H T := q
theorem hasL {q : Prop} (h : SqL K H a xs) (k : q) : (∃ xs, SqL K H a xs) ∧ q := ⟨⟨xs, h⟩, k⟩
theorem hasT {q : Prop} (h : SqT K H a xs) (k : q) : (∃ xs, SqT K H a xs) ∧ q := ⟨⟨xs, h⟩, k⟩
def Is1 (vs : List V) (k : Int → Prop) : Prop := ∃ j, vs = [.int j] ∧ k j
theorem is1 {j : Int} {k : Int → Prop} (h : k j) : Is1 [.int j] k := ⟨j, rfl, h⟩
theorem itR {ta : TA} {T : It → Hp → Prop} (q : ta σ H fun vs H1 => Is1 vs fun j => -(2 ^ 62) ≤ j ∧ j < 2 ^ 62 ∧ T (Itr 0 j.toNat) H1) : iRng1 ta σ H T := q
def Is2 (vs : List V) (k : Int → Int → Prop) : Prop := ∃ i j, vs = [.int i, .int j] ∧ k i j
theorem is2 {i j : Int} {k : Int → Int → Prop} (h : k i j) : Is2 [.int i, .int j] k := ⟨i, j, rfl, h⟩
theorem itR2 {ta : TA} {T : It → Hp → Prop} (q : ta σ H fun vs H1 => Is2 vs fun i j => (-(2 ^ 62) ≤ i ∧ i < 2 ^ 62 ∧ -(2 ^ 62) ≤ j ∧ j < 2 ^ 62) ∧ T (Itr i (j - i).toNat) H1) : iRng2 ta σ H T := q
theorem r2 {i j : Int} {q : Prop} (h : -(2 ^ 62) ≤ i ∧ i < 2 ^ 62 ∧ -(2 ^ 62) ≤ j ∧ j < 2 ^ 62) (k : q) : (-(2 ^ 62) ≤ i ∧ i < 2 ^ 62 ∧ -(2 ^ 62) ≤ j ∧ j < 2 ^ 62) ∧ q := ⟨h, k⟩
theorem r1 {j : Int} {q : Prop} (h1 : -(2 ^ 62) ≤ j) (h2 : j < 2 ^ 62) (k : q) : -(2 ^ 62) ≤ j ∧ j < 2 ^ 62 ∧ q := ⟨h1, h2, k⟩
end
section
variable {K : PySem.W.Frag} {σ : L2.St} {H : Hp} {a b : Addr} {xs ys : List V}
def IsZip (K : PySem.W.Frag) (vs : List V) (H1 : Hp) (k : It → Prop) : Prop := ∃ a b xs ys, vs = [.ref a, .ref b] ∧ ((SqL K H1 a xs ∧ SqL K H1 b ys ∧ k (Itz K a b)) ∨ (SqT K H1 a xs ∧ SqT K H1 b ys ∧ k (RZ.ItzT K a b)))
theorem itZ {ta : TA} {T : It → Hp → Prop} (q : ta σ H fun vs H1 => IsZip K vs H1 fun J => T J H1) : RZ.iZipA K ta σ H T := q
theorem zL {k : It → Prop} (h1 : SqL K H a xs) (h2 : SqL K H b ys) (q : k (Itz K a b)) : IsZip K [.ref a, .ref b] H k := ⟨a, b, xs, ys, rfl, .inl ⟨h1, h2, q⟩⟩
theorem zT {k : It → Prop} (h1 : SqT K H a xs) (h2 : SqT K H b ys) (q : k (RZ.ItzT K a b)) : IsZip K [.ref a, .ref b] H k := ⟨a, b, xs, ys, rfl, .inr ⟨h1, h2, q⟩⟩
theorem allL {bs : List Bool} {Q : VK} (h : SqL K H a (bs.map V.bl)) (q : Q (.bl (bs.all id)) H) : rAll K [.ref a] H Q := ⟨a, bs, rfl, h, q⟩
theorem anyL {bs : List Bool} {Q : VK} (h : SqL K H a (bs.map V.bl)) (q : Q (.bl (bs.any id)) H) : rAny K [.ref a] H Q := ⟨a, bs, rfl, h, q⟩
/-- a new pair of the i-th of xs and the i-th of ys -/
def YP (xs ys : List V) : Nat → Hp → V → Hp → Prop := fun i H v H1 => ∃ T x y, v = .ref T ∧ H T = none ∧ Same H H1 ∧ H1 T = some (.tup [x, y]) ∧ xs[i]? = some x ∧ ys[i]? = some y
theorem walkZ {n : Nat} (hn : n = min xs.length ys.length) : Walk (Itz K a b) n (fun H => SqL K H a xs ∧ SqL K H b ys) (YP xs ys) :=
  (walk_zip hn).mono (fun _ h => h) fun i H x H1 _ _ ⟨T, u, t, e1, e2, e3, e4, e5⟩ => ⟨T, u, t, e1, e2, e3 ▸ Sn e2, e3 ▸ upd_same, e4, e5⟩
theorem walkZT {n : Nat} (hn : n = min xs.length ys.length) : Walk (RZ.ItzT K a b) n (fun H => SqT K H a xs ∧ SqT K H b ys) (YP xs ys) := by
  subst hn
  refine ⟨fun i _ hi q => ?_, fun _ q => ⟨xs, ys, q.1, q.2, by omega⟩, fun i H v H' _ q y => ?_⟩
  · have h1 : i < xs.length := by omega
    have h2 : i < ys.length := by omega
    exact ⟨xs, ys, xs[i], ys[i], q.1, q.2, by simp [h1], by simp [h2]⟩
  · obtain ⟨T, x, z, h1, h2, h3, h4, h5⟩ := y
    exact ⟨T, x, z, h1, h2, h3 ▸ Sn h2, h3 ▸ upd_same, h4 xs q.1, h5 ys q.2⟩
theorem all_rep (n : Nat) : (List.replicate n true).all id = true := by
  rw [List.all_eq_true]
  intro x hx
  rw [(List.mem_replicate.mp hx).2]
  rfl
end
section
variable {K : PySem.W.Frag} {σ : L2.St} {H : Hp} {a : Addr} {xs ys : List V} {Q : VK}
def IsSt (K : PySem.W.Frag) (x : V) (H1 : Hp) (k : List V → Prop) : Prop := ∃ p xs, x = V.ref p ∧ (SqT K H1 p xs ∨ SqL K H1 p xs) ∧ k xs
theorem star {te : TE} {t : TA} {Q : List V → Hp → Prop} (q : te σ H fun x H1 => IsSt K x H1 fun xs => t σ H1 fun ys H2 => Q (xs ++ ys) H2) : StX.tStar K te t σ H Q := q
theorem isStT {k : List V → Prop} (h : SqT K H a xs) (q : k xs) : IsSt K (.ref a) H k := ⟨a, xs, rfl, .inl h, q⟩
theorem isStL {k : List V → Prop} (h : SqL K H a xs) (q : k xs) : IsSt K (.ref a) H k := ⟨a, xs, rfl, .inr h, q⟩
theorem slT {lo hi : Option Int} (h : SqT K H a xs) (w : ¬ (HT.sIx xs.length 0 lo = 0 ∧ HT.sIx xs.length xs.length hi = xs.length)) (e : cutV xs lo hi = ys) (q : New (.tup ys) H fun p H1 => Q (.ref p) H1) : rSlT K (.ref a) lo hi H Q := by
  subst e
  exact ⟨a, xs, rfl, h, w, q⟩
theorem eqD {x y : V} {d e : PyData} (h1 : Dp K H x d) (h2 : Dp K H y e) (h3 : SeqAt.shaped d = true) (h4 : SeqAt.shaped e = true) (q : Q (.bl (PyData.eqv d e)) H) : rEqD K x y H Q := ⟨d, e, h1, h2, h3, h4, q⟩
theorem neD {x y : V} {d e : PyData} (h1 : Dp K H x d) (h2 : Dp K H y e) (h3 : SeqAt.shaped d = true) (h4 : SeqAt.shaped e = true) (q : Q (.bl (!PyData.eqv d e)) H) : rNeD K x y H Q := ⟨d, e, h1, h2, h3, h4, q⟩
end
section
variable {K : PySem.W.Frag} {σ : L2.St} {H : Hp} {a : Addr} {xs ys : List V} {Q : VK} {E : XK}
def Kw (n m : Nat) (sp : Sp) (gV : List V → List V → List V) (E : XK) (vs zs : List V) (H : Hp) (Q : VK) : Prop := vs.length = n ∧ zs.length = m ∧ sp (gV vs zs) H Q E
theorem callN {n m : Nat} {sp : Sp} {gV : List V → List V → List V} {t tk : TA} (q : t σ H fun vs H1 => tk σ H1 fun zs H2 => Kw n m sp gV E vs zs H2 Q) : tCallN n m sp gV E t tk σ H Q := q
theorem okN {n m : Nat} {vs zs as : List V} {sp : Sp} {gV : List V → List V → List V} (h1 : vs.length = n) (h2 : zs.length = m) (e : gV vs zs = as) (q : sp as H Q E) : Kw n m sp gV E vs zs H Q := by
  subst e
  exact ⟨h1, h2, q⟩
theorem rep {k : Int} (h : H a = some (.lst xs)) (h1 : -(2 ^ 63) ≤ k) (h2 : k < 2 ^ 63) (h3 : xs.length * k.toNat ≤ sizeLine) (e : (List.replicate k.toNat xs).flatten = ys) (q : New (.lst ys) H fun p H1 => Q (.ref p) H1) : rRep (.ref a) (.int k) H Q := by
  subst e
  exact ⟨a, k, xs, rfl, rfl, h, h1, h2, h3, q⟩
theorem cat {b : Addr} {zs : List V} (h1 : H a = some (.lst xs)) (h2 : H b = some (.lst ys)) (h3 : xs.length + ys.length ≤ sizeLine) (e : xs ++ ys = zs) (q : New (.lst zs) H fun p H1 => Q (.ref p) H1) : rCat (.ref a) (.ref b) H Q := by
  subst e
  exact ⟨a, b, xs, ys, rfl, rfl, h1, h2, h3, q⟩
def RAddS : R2 := fun x y H Q => ∃ i j, x = .str i ∧ y = .str j ∧ i.length + j.length ≤ sizeLine ∧ Q (.str (i ++ j)) H
theorem c_addS {X : Cx} : OpR X (binaryOp .Add) RAddS := op_add_str
theorem addS {i j : Str} (h : i.cps.size + j.cps.size ≤ sizeLine) (q : Q (.str (i ++ j)) H) : RAddS (.str i) (.str j) H Q := ⟨i, j, rfl, rfl, h, q⟩
theorem mem_atI {α : Type} {xs : List α} {d : Int} (h0 : 0 ≤ d) (h1 : d < xs.length) : ∃ v, atI xs d = some v ∧ v ∈ xs := by
  obtain ⟨j, rfl⟩ : ∃ j : Nat, d = (j : Int) := ⟨d.toNat, by omega⟩
  have hj : j < xs.length := by omega
  exact ⟨xs[j], atI_nat (List.getElem?_eq_getElem hj), List.getElem_mem hj⟩
theorem ixSm {z : Str} {i : Int} (h : z.cps.size ≤ sizeLine) (h0 : 0 ≤ i) (h1 : i < z.cps.toList.length) (q : ∀ c, c ∈ z.cps.toList → Q (.str ⟨#[c]⟩) H) : rIxS (.str z) (.int i) H Q := by
  obtain ⟨c, hc, hm⟩ := mem_atI (xs := z.cps.toList) h0 h1
  exact ⟨z, i, c, rfl, rfl, h, hc, q c hm⟩
theorem ixLm {i : Int} (h : SqL K H a xs) (h0 : 0 ≤ i) (h1 : i < xs.length) (q : ∀ v, v ∈ xs → Q v H) : rIxL K (.ref a) (.int i) H Q := by
  obtain ⟨c, hc, hm⟩ := mem_atI (xs := xs) h0 h1
  exact ⟨a, xs, i, c, rfl, rfl, h, hc, q c hm⟩
theorem ixS {z : Str} {i : Int} {c : Nat} (h : z.cps.size ≤ sizeLine) (g : atI z.cps.toList i = some c) (q : Q (.str ⟨#[c]⟩) H) : rIxS (.str z) (.int i) H Q := ⟨z, i, c, rfl, rfl, h, g, q⟩
end
def kit2 (K : PySem.W.Frag) (t u : Value) (b : Bool) : Prop := PySem.W.kitOne K t u = some b
end Go
/-! ### the bag of the law: a list of a list of ints and four numbers -/
def Bag (H : Hp) (b l : Addr) : Prop := ∃ (ns : List Int) (i : Nat) (r m n : Int), H b = some (.lst [.ref l, .int i, .int r, .int m, .int n]) ∧ H l = some (.lst (ns.map V.int)) ∧ l ≠ b ∧ ns.length ≤ 63 ∧ 0 ≤ r ∧ 0 ≤ m ∧ m < 2147483648
abbrev Stp (b : Addr) (H H' : Hp) : Prop := Go.But b H H'
theorem Stp.refl {b : Addr} {H : Hp} : Stp b H H := fun _ _ _ h => h
theorem Stp.trans {b : Addr} {H H1 H2 : Hp} (x : Stp b H H1) (y : Stp b H1 H2) : Stp b H H2 := fun a o n h => y a o n (x a o n h)
theorem Stp.put {b : Addr} {H : Hp} {o : HO} : Stp b H (upd H b o) := fun a u n h => by rw [upd_ne n]; exact h
theorem Stp.new {b p : Addr} {H : Hp} {o : HO} (h : H p = none) : Stp b H (upd H p o) := fun a u _ e => by rw [upd_ne (ne_of_none e h)]; exact e
theorem Same.new {p : Addr} {H : Hp} {o : HO} (h : H p = none) : Same H (upd H p o) := fun a u e => by rw [upd_ne (ne_of_none e h)]; exact e
theorem Same.stp {b : Addr} {H H' : Hp} (h : Same H H') : Stp b H H' := fun a o _ e => h a o e
theorem Bag.same {b l : Addr} {H H' : Hp} (s : Same H H') (h : Bag H b l) : Bag H' b l := by
  obtain ⟨ns, i, r, m, n, h1, h2, h3⟩ := h
  exact ⟨ns, i, r, m, n, s _ _ h1, s _ _ h2, h3⟩
theorem Bag.but {b l q : Addr} {H H' : Hp} (s : Go.But q H H') (n1 : b ≠ q) (n2 : l ≠ q) (h : Bag H b l) : Bag H' b l := by
  obtain ⟨ns, i, r, m, n, h1, h2, h3⟩ := h
  exact ⟨ns, i, r, m, n, s _ _ n1 h1, s _ _ n2 h2, h3⟩
theorem Bag.at {b l : Addr} {H : Hp} (h : Bag H b l) : ∃ u, H b = some u := by
  obtain ⟨ns, i, r, m, n, h1, _⟩ := h
  exact ⟨_, h1⟩
theorem Bag.new {b l p : Addr} {H : Hp} {o : HO} (h : Bag H b l) (hp : H p = none) : Bag (upd H p o) b l := h.same (Same.new hp)
theorem Bag.ne {b l p : Addr} {H : Hp} (h : Bag H b l) (hp : H p = none) : p ≠ b := by
  obtain ⟨ns, i, r, m, n, h1, _⟩ := h
  exact (ne_of_none h1 hp).symm
theorem Bag.nel {b l p : Addr} {H : Hp} (h : Bag H b l) (hp : H p = none) : p ≠ l := by
  obtain ⟨ns, i, r, m, n, _, h1, _⟩ := h
  exact (ne_of_none h1 hp).symm
/-- a list of one's own is written -/
theorem Bag.put {b l p : Addr} {H : Hp} {o : HO} (h : Bag H b l) (n : p ≠ b) (nl : p ≠ l) : Bag (upd H p o) b l := by
  obtain ⟨ns, i, r, m, c, h1, h2, h3⟩ := h
  exact ⟨ns, i, r, m, c, by rw [upd_ne n.symm]; exact h1, by rw [upd_ne nl.symm]; exact h2, h3⟩
/-- what was new is new: the bag stands behind, too -/
theorem Stp.free {b l p : Addr} {H H' : Hp} (s : Stp b H H') (hb : Bag H' b l) (hp : H' p = none) : H p = none := Go.freeB s (hb.ne hp) hp
theorem Stp.sqL {K : PySem.W.Frag} {b a : Addr} {H H' : Hp} {xs : List V} (s : Stp b H H') (n : a ≠ b) (h : SqL K H a xs) : SqL K H' a xs := Go.lB s n h
theorem Stp.sqT {K : PySem.W.Frag} {b a : Addr} {H H' : Hp} {xs : List V} (s : Stp b H H') (n : a ≠ b) (h : SqT K H a xs) : SqT K H' a xs := Go.tB s n h
local macro_rules | `(tactic| tm_at "idx") => `(tactic| first | rfl | exact atI_nat (j := 0) rfl | exact atI_nat (j := 1) rfl | exact atI_nat (j := 2) rfl | exact atI_nat (j := 3) rfl | exact atI_nat (j := 4) rfl | assumption)
local macro_rules | `(tactic| tm_at "ixn") => `(tactic| first | exact (rfl : _ = some 0) | exact (rfl : _ = some 1) | exact (rfl : _ = some 2) | exact (rfl : _ = some 3) | exact (rfl : _ = some 4) | rfl)
local macro_rules | `(tactic| tm_at "ne") => `(tactic| first | assumption | exact Ne.symm (by assumption))
local macro_rules | `(tactic| tm_at "hpO") => `(tactic| first | assumption | (refine' Go.oS (by assumption) ?z0; (case z0 => tm_at "hpO")) | (refine' Go.oB (by assumption) ?z0 ?z1; (case z0 => tm_at "ne"); (case z1 => tm_at "hpO")))
local macro_rules | `(tactic| tm_at "hpL") => `(tactic| first | assumption | exact SqL.of (by assumption) | (refine' Go.lS (by assumption) ?z0; (case z0 => tm_at "hpL")) | (refine' Go.lB (by assumption) ?z0 ?z1; (case z0 => tm_at "ne"); (case z1 => tm_at "hpL")))
local macro_rules | `(tactic| tm_at "hpT") => `(tactic| first | assumption | exact SqT.of (by assumption) | (refine' Go.tS (by assumption) ?z0; (case z0 => tm_at "hpT")) | (refine' Go.tB (by assumption) ?z0 ?z1; (case z0 => tm_at "ne"); (case z1 => tm_at "hpT")))
local macro_rules | `(tactic| tm_at "bag") => `(tactic| first | assumption | (refine' Bag.same (by assumption) ?z0; (case z0 => tm_at "bag")) | (refine' Bag.but (by assumption) ?z0 ?z1 ?z2; (case z0 => tm_at "ne"); (case z1 => tm_at "ne"); (case z2 => tm_at "bag")))
local macro_rules | `(tactic| tm_at "non") => `(tactic| first | assumption | (refine' Go.freeS (by assumption) ?z0; (case z0 => tm_at "non")) | (refine' Go.freeB (by assumption) ?z0 ?z1; (case z0 => tm_at "ne"); (case z1 => tm_at "non")))
local macro_rules | `(tactic| tm_at "same") => `(tactic| first | assumption | exact Same.refl _ | (refine' Same.trans ?z0 (by assumption); (case z0 => tm_at "same")) | (refine' Go.Same.own ?z0 ?z1 (by assumption); (case z0 => tm_at "same"); (case z1 => tm_at "non")))
local macro_rules | `(tactic| tm_at "but") => `(tactic| first | assumption | exact Go.But.refl | (refine' Go.But.trans ?z0 (by assumption); (case z0 => tm_at "but")) | (refine' Go.But.trans ?z0 (Go.sb (by assumption)); (case z0 => tm_at "but")) | (refine' Go.But.own ?z0 ?z1 (by assumption); (case z0 => tm_at "but"); (case z1 => tm_at "non")))
local macro_rules | `(tactic| tm_at "set") => `(tactic| (first | (simp only [Int.reduceToNat, List.set_cons_succ, List.set_cons_zero, List.cons_append, List.nil_append]; (first | done | rfl)) | rfl))
local macro_rules | `(tactic| tm_at "side") => `(tactic| first | assumption | omega | (unfold CMul; omega) | (unfold CDiv; omega) | (unfold CPow; omega) | exact .inr ⟨by omega, by omega⟩ | exact .inl ⟨by omega, by omega⟩ | (show (0 : Int) < _; omega) | exact Nat.le_of_ble_eq_true rfl)
local macro_rules | `(tactic| tm_at "go1") => `(tactic| first
  | with_reducible refine Go.seq ?_
  | with_reducible refine Go.asg ?_
  | with_reducible refine Go.op ?_
  | with_reducible refine Go.cst ?_
  | ((with_reducible refine' Go.var ?v ?_); (case v => rfl))
  | with_reducible refine Go.i0 ?_
  | ((with_reducible refine' Go.ixL ?h ?g ?_); (case h => tm_at "hpL"); (case g => tm_at "idx"))
  | ((with_reducible refine' Go.ixT ?h ?g ?_); (case h => tm_at "hpT"); (case g => tm_at "idx"))
  | ((with_reducible refine' Go.i1 ?h ?_); (case h => tm_at "side"))
  | with_reducible refine Go.cb ?_
  | with_reducible refine Go.cons ?_
  | with_reducible refine Go.nil ?_
  | with_reducible refine Go.call ?_
  | with_reducible refine Go.intI ?_
  | ((with_reducible refine Go.absI ?_); intro _ _ _)
  | ((with_reducible refine' Go.lenL ?h ?_); (case h => tm_at "hpL"))
  | ((with_reducible refine' Go.lenT ?h ?_); (case h => tm_at "hpT"))
  | ((with_reducible refine' Go.listL ?h ?_); (case h => tm_at "hpL"))
  | ((with_reducible refine' Go.listT ?h ?_); (case h => tm_at "hpT"))
  | ((with_reducible refine' Go.lenS ?h ?_); (case h => first | assumption | exact Go.le_line (by omega)))
  | with_reducible refine Go.eqI ?_
  | with_reducible refine Go.neI ?_
  | with_reducible refine Go.eqS ?_
  | with_reducible refine Go.neS ?_
  | with_reducible refine Go.ifS ?_
  | with_reducible refine Go.test ?_
  | with_reducible refine Go.tb ?_
  | with_reducible refine Go.and ?_
  | with_reducible refine Go.or ?_
  | with_reducible refine Go.not ?_
  | with_reducible refine Go.isBl ?_
  | with_reducible refine Go.ret ?_
  | with_reducible refine Go.drop ?_
  | with_reducible refine Go.next ?_
  | ((with_reducible refine' Go.name ?h ?_); (case h => tm_at "set"))
  | with_reducible refine Go.sub ?_
  | ((with_reducible refine' Go.setL ?h ?g ?e ?_); (case h => tm_at "hpO"); (case g => tm_at "ixn"); (case e => tm_at "set"))
  | ((with_reducible refine' Go.wr ?_); intro _ _ _)
  | ((with_reducible refine' Go.new ?_); intro p' H' n' _ _; (try have := Bag.ne (by tm_at "bag") n'); (try have := Bag.nel (by tm_at "bag") n'))
  | with_reducible refine Go.forr ?_
  | with_reducible refine Go.itZ ?_
  | ((with_reducible refine' Go.zL ?h1 ?h2 ?_); (case h1 => tm_at "hpL"); (case h2 => tm_at "hpL"))
  | ((with_reducible refine' Go.zT ?h1 ?h2 ?_); (case h1 => tm_at "hpT"); (case h2 => tm_at "hpT"))
  | with_reducible refine Go.lc ?_
  | with_reducible refine Go.yes ?_
  | with_reducible refine Go.itL ?_
  | with_reducible refine Go.itT ?_
  | with_reducible refine Go.itR ?_
  | with_reducible refine Go.atR ?_
  | with_reducible refine Go.is1 ?_
  | with_reducible refine Go.itR2 ?_
  | with_reducible refine Go.is2 ?_
  | ((with_reducible refine' Go.r2 ?h ?_); (case h => omega))
  | ((with_reducible refine' Go.r1 ?h1 ?h2 ?_); (case h1 => omega); (case h2 => omega))
  | ((with_reducible refine' Go.hasL ?h ?_); (case h => tm_at "hpL"))
  | ((with_reducible refine' Go.hasT ?h ?_); (case h => tm_at "hpT"))
  | with_reducible refine Go.lst ?_
  | with_reducible refine Go.tup ?_
  | ((with_reducible refine And.intro ?l ?_); (case l => first | exact Nat.le_of_ble_eq_true rfl | exact (rfl : (_ : L2.St) = _)))
  | with_reducible refine Go.sl ?_
  | with_reducible refine Go.noPart ?_
  | with_reducible refine Go.part ?_
  | with_reducible refine Go.isI ?_
  | ((with_reducible refine' Go.slL ?h ?e ?_); (case h => tm_at "hpL"); (case e => first | rfl))
  | with_reducible refine Go.andV ?_
  | with_reducible refine Go.orV ?_
  | with_reducible refine Go.notV ?_
  | with_reducible refine Go.ife ?_
  | with_reducible refine Go.chain ?_
  | with_reducible refine Go.isN ?_
  | with_reducible refine Go.callN ?_
  | ((with_reducible refine' Go.okN ?h1 ?h2 ?e ?_); (case h1 => rfl); (case h2 => rfl); (case e => (simp only [List.nil_append, List.cons_append, List.getD_cons_zero, List.getD_cons_succ]; (first | done | rfl))))
  | ((with_reducible refine' Go.rep ?h ?h1 ?h2 ?h3 ?e ?_); (case h => tm_at "hpO"); (case h1 => omega); (case h2 => omega); (case h3 => exact Nat.le_of_ble_eq_true rfl); (case e => rfl))
  | ((with_reducible refine' Go.cat ?h1 ?h2 ?h3 ?e ?_); (case h1 => tm_at "hpO"); (case h2 => tm_at "hpO"); (case h3 => exact Nat.le_of_ble_eq_true rfl); (case e => tm_at "set"))
  | ((with_reducible refine' Go.addS ?h ?_); (case h => first | assumption | exact Go.le_line (by omega) | (refine' Go.le_line (Nat.le_trans (Nat.add_le_add ?a ?b) ?c); (case a => tm_at "szs"); (case b => tm_at "szs"); (case c => exact Nat.le_of_ble_eq_true rfl))))
  | ((with_reducible refine' Go.ixS ?h ?g ?_); (case h => first | assumption | exact Go.le_line (by omega) | exact (show Array.size _ ≤ _ by decide +kernel)); (case g => tm_at "idx"))
  | ((with_reducible refine' Go.ixSm ?h ?g ?f ?_); (case h => first | assumption | exact Go.le_line (by omega) | exact (show Array.size _ ≤ _ by decide +kernel)); (case g => omega); (case f => omega); intro _ _)
  | ((with_reducible refine' Go.slS ?h ?_); (case h => first | assumption | exact Go.le_line (by omega)))
  | with_reducible refine Go.star ?_
  | ((with_reducible refine' Go.isStT ?h ?_); (case h => tm_at "hpT"))
  | ((with_reducible refine' Go.isStL ?h ?_); (case h => tm_at "hpL"))
  | ((with_reducible refine' Go.slT ?h ?w ?e ?_); (case h => tm_at "hpT"); (case w => first | exact fun h => Nat.ne_of_beq_eq_false rfl h.2 | exact fun h => Nat.ne_of_beq_eq_false rfl h.1); (case e => rfl))
  | ((with_reducible refine' Go.allL ?h ?_); (case h => tm_at "hpL"))
  | ((with_reducible refine' Go.anyL ?h ?_); (case h => tm_at "hpL"))
  | with_reducible refine Go.notN ?_
  | with_reducible refine Go.un ?_
  | with_reducible refine Go.u1 ?_
  | with_reducible refine Go.brk ?_
  | with_reducible refine Go.cont ?_
  | with_reducible refine Go.retN ?_
  | with_reducible refine Go.par ?_
  | ((with_reducible refine' Go.par2 ?h ?_); (case h => tm_at "set"))
  | with_reducible refine Go.par3 ?_
  | ((with_reducible refine' Go.par33 ?h ?_); (case h => tm_at "set"))
  | ((with_reducible refine' Go.gtup ?h ?l ?_); (case h => tm_at "hpT"); (case l => rfl))
  | with_reducible refine Go.gcons ?_
  | with_reducible refine Go.gnil ?_
  | with_reducible refine Go.eqB ?_
  | with_reducible refine Go.neB ?_
  | with_reducible refine Go.wn ?_
  | with_reducible refine Go.wT ?_
  | with_reducible refine Go.wF ?_
  | ((with_reducible refine' Go.wayT ?e ?_); (case e => first | assumption | (simp only [Bool.or_false, Bool.or_true, Bool.false_or, Bool.true_or, Bool.and_false, Bool.and_true, Bool.false_and, Bool.true_and, Bool.not_false, Bool.not_true, decide_true, decide_false, reduceCtorEq, eq_self, not_true_eq_false, not_false_eq_true]; done)))
  | ((with_reducible refine' Go.wayF ?e ?_); (case e => first | assumption | (simp only [Bool.or_false, Bool.or_true, Bool.false_or, Bool.true_or, Bool.and_false, Bool.and_true, Bool.false_and, Bool.true_and, Bool.not_false, Bool.not_true, decide_true, decide_false, reduceCtorEq, eq_self, not_true_eq_false, not_false_eq_true]; done)))
  | ((with_reducible refine' Go.wd ?_ ?_) <;> intro _ <;> (try (exfalso; omega; done)))
  | tm_at "sp"
  | ((with_reducible refine' Go.wayT ?e ?_); (case e => exact rfl))
  | ((with_reducible refine' Go.wayF ?e ?_); (case e => exact rfl))
  | ((with_reducible refine' Go.wb ?_ ?_) <;> intro _))
local macro_rules | `(tactic| tm_at "wipe") => `(tactic| (simp only [List.map, wipe, List.set_cons_succ, List.set_cons_zero]; (first | done | rfl)))
local macro_rules | `(tactic| tm_at "lcEnd") => `(tactic| ((with_reducible refine' Go.lcEnd ?h ?l ?_); (case h => tm_at "hpO"); (case l => (first | omega | (refine Go.lt_line ?_; simp only [List.length_map, List.length_replicate]; omega) | (refine Go.lt_line ?_; omega))); intro _ _ _))
local macro_rules | `(tactic| tm_at "tru") => `(tactic| refine Go.bE (c := true) (by simp) ?_)
local macro_rules | `(tactic| tm_at "go") => `(tactic| repeat' (tm_at "go1"))

theorem cut_ints (ns : List Int) (k : Nat) : cutV (ns.map V.int) none (some (k : Int)) = (ns.take k).map V.int := by
  unfold cutV
  rw [HT.sIx_none, HT.sIx_nat, List.drop_zero, Nat.sub_zero, List.map_take]
  by_cases h : k ≤ (ns.map V.int).length
  · rw [Nat.min_eq_left h]
  · rw [Nat.min_eq_right (by omega), List.take_length, List.take_of_length_le (by omega)]
theorem int_of_map {ns : List Int} {i : Nat} {y : V} (hi : (ns.map V.int)[i]? = some y) : ∃ u, y = V.int u := by
  rw [List.getElem?_map] at hi
  cases e : ns[i]? with
  | none => rw [e] at hi; cases hi
  | some u => rw [e] at hi; exact ⟨u, (Option.some.inj hi).symm⟩
theorem mem_at {α : Type} {xs : List α} {d : Int} (h0 : 0 ≤ d) (h1 : d < xs.length) : ∃ v, atI xs d = some v ∧ v ∈ xs := by
  obtain ⟨j, rfl⟩ : ∃ j : Nat, d = (j : Int) := ⟨d.toNat, by omega⟩
  have hj : j < xs.length := by omega
  exact ⟨xs[j], atI_nat (List.getElem?_eq_getElem hj), List.getElem_mem hj⟩

section
variable {P : Program} {w : World} {K : PySem.W.Frag} {mg : Str → Option Value} {base : Heap} {Z : Fs}
/-! ### _law_bag -/
def sp_law_bag (K : PySem.W.Frag) : Sp := fun vs H Q _ => ∃ (a : Addr) (ns : List Int), vs = [.ref a] ∧ SqL K H a (ns.map V.int) ∧ ns.length ≤ 63 ∧ ∀ (H' : Hp) (b l : Addr), Same H H' → H b = none → H l = none → Bag H' b l → Q (.ref b) H'
theorem ok_law_bag (T : Txt K w mg Z) : FnOk P w K mg base CX0 1 Z.a_law_bag Z.d_law_bag ["_law_script"] (sp_law_bag K) := by
  refine T.F_law_bag.ok sc_law_bag (fun vs H Q E h => ?_) (fun cdv A outer s H vs Q E hr h => ?_)
  · obtain ⟨a, ns, rfl, _⟩ := h
    rfl
  · obtain ⟨a, ns, rfl, hS, hlen, k⟩ := h
    refine ⟨_, (pss_cons (ps_set (i := 1) sc_law_bag.nd rfl (Or.inl rfl) pe_int)
      (pss_cons (ps_for PassesOwn.never rfl (pi_list (pe_slice (sl_list : SlR _ (rSlL K)) (pv 0) po_none (po_some pe_int))) (pg_name (i := 2) sc_law_bag.nd rfl (Or.inl rfl)) (pss_one (ps_set (i := 1) sc_law_bag.nd rfl (Or.inl rfl) (pe_op op_mod (pe_callTy Go.c_int (by rfl) T.n_int boot_int (pa_cons (pe_op op_add (pe_op op_add (pe_op op_mul (pv 1) pe_int) (pe_op op_mul (pe_op op_mod (pe_callTy Go.c_int (by rfl) T.n_int boot_int (pa_cons (pv 2) pa_nil)) pe_int) pe_int)) pe_int) pa_nil)) pe_int))))
      (pss_one (ps_ret (pe_lst (pa_cons (pe_callTy Go.c_list (by rfl) T.n_list boot_list (pa_cons (pe_slice (sl_list : SlR _ (rSlL K)) (pv 0) po_none (po_some pe_int)) pa_nil)) (pa_cons pe_int (pa_cons pe_int (pa_cons (pv 1) (pa_cons pe_int pa_nil)))))))))), ?_⟩
    refine ⟨.ref a, rfl, 63, rfl, a, ns.map V.int, rfl, hS, fun p hp => ?_⟩
    have s1 : Same H (upd H p (.lst (cutV (ns.map V.int) none (some 63)))) := Same.new hp
    have ec : cutV (ns.map V.int) none (some 63) = (ns.take 63).map V.int := cut_ints ns 63
    refine ⟨p, rfl, ⟨_, SqL.of upd_same⟩, for_list (K := K) (a := p) (xs := cutV (ns.map V.int) none (some 63)) (fun i σ H' => ∃ (m : Int) (v : Option V), σ = [some (.ref a), some (.int m), v] ∧ Same (upd H p (.lst (cutV (ns.map V.int) none (some 63)))) H' ∧ 0 ≤ m ∧ m < 2147483579)
      ⟨12026, none, rfl, Same.refl _, by decide, by decide⟩ (fun i σ H' _ ⟨_, _, _, s2, _⟩ => SqL.of (s2 _ _ upd_same)) ?_ ?_⟩
    · rintro i y σ H' hi ⟨m, v, rfl, s2, h0, h1⟩
      rw [ec] at hi
      obtain ⟨u, rfl⟩ := int_of_map hi
      tm_at "go"
      exact ⟨_, _, rfl, s2, Int.emod_nonneg _ (by decide), Int.emod_lt_of_pos _ (by decide)⟩
    · rintro σ H' ⟨m, v, rfl, s2, h0, h1⟩
      refine ⟨.ref a, rfl, 63, rfl, a, ns.map V.int, rfl, (s1.trans s2).seq hS, fun q hq => ⟨q, _, rfl, .inl (SqL.of upd_same), fun l hl => ⟨_, rfl, (by show 5 ≤ sizeLine; decide), fun b hb => ?_⟩⟩⟩
      have nlb : l ≠ b := fun e => by
        rw [← e, upd_same] at hb
        cases hb
      have s3 := ((s1.trans s2).trans (Same.new (o := .lst (cutV (ns.map V.int) none (some 63))) hq)).trans (Same.new (o := .lst (cutV (ns.map V.int) none (some 63))) hl)
      refine k _ b l (s3.trans (Same.new hb)) (s3.free hb) (((s1.trans s2).trans (Same.new (o := .lst (cutV (ns.map V.int) none (some 63))) hq)).free hl) ⟨ns.take 63, 0, 0, m, 0, upd_same, ?_, nlb, ?_, by decide, h0, by omega⟩
      · rw [upd_ne nlb, upd_same, ec]
      · rw [List.length_take]
        omega
/-! ### _law_draw -/
def sp_law_draw : Sp := fun vs H Q _ => ∃ (b l : Addr) (d : Int), vs = [.ref b, .int d] ∧ Bag H b l ∧ 0 < d ∧ d < 1073741824 ∧ ∀ (H' : Hp) (v : Int), Stp b H H' → Bag H' b l → 0 ≤ v → v < d → Q (.int v) H'
theorem i_draw {H : Hp} {Q : VK} {E : XK} {b l : Addr} {d : Int} (hB : Bag H b l) (h0 : 0 < d) (h1 : d < 1073741824) (q : ∀ (H' : Hp) (v : Int), Stp b H H' → Bag H' b l → 0 ≤ v → v < d → Q (.int v) H') : sp_law_draw [.ref b, .int d] H Q E := ⟨b, l, d, rfl, hB, h0, h1, q⟩
theorem ok_law_draw (T : Txt K w mg Z) : FnOk P w K mg base CX0 1 Z.a_law_draw Z.d_law_draw ["_law_bag_here", "_law_sides"] sp_law_draw := by
  refine T.F_law_draw.ok sc_law_draw (fun vs H Q E h => ?_) (fun cdv A outer s H vs Q E hr h => ?_)
  · obtain ⟨b, l, d, rfl, _⟩ := h
    rfl
  · obtain ⟨b, l, d, rfl, ⟨ns, i, r, m, n, hb, hl, nlb, hlen, r0, m0, m1⟩, d0, d1, k⟩ := h
    refine ⟨_, (pss_cons (ps_asg (pe_op op_add (pe_ix (ix_list : IxR _ (rIxL K)) (pv 0) pe_int (fun _ _ => rfl)) pe_int) (pg_sub (pv 0) pe_int set_list))
      (C8.pss_cut (ps_if (PW.pt (pw_and (pt_cmpR op_eq (pe_ix (ix_list : IxR _ (rIxL K)) (pv 0) pe_int (fun _ _ => rfl)) pe_int (nomark _)) (pw_and1 (pt_cmpR op_lt (pe_ix (ix_list : IxR _ (rIxL K)) (pv 0) pe_int (fun _ _ => rfl)) (pe_callB (Go.c_len : CallR _ _ (Go.RLen K)) (by rfl) T.n_len boot_len (pa_cons (pe_ix (ix_list : IxR _ (rIxL K)) (pv 0) pe_int (fun _ _ => rfl)) pa_nil)) (nomark _))))) (pss_cons (ps_set (i := 2) sc_law_draw.nd rfl (Or.inl rfl) (pe_callTy Go.c_int (by rfl) T.n_int boot_int (pa_cons (pe_ix (ix_list : IxR _ (rIxL K)) (pe_ix (ix_list : IxR _ (rIxL K)) (pv 0) pe_int (fun _ _ => rfl)) (pe_ix (ix_list : IxR _ (rIxL K)) (pv 0) pe_int (fun _ _ => rfl)) (fun _ _ => rfl)) pa_nil)))
      (pss_cons (ps_asg (pe_op op_add (pe_ix (ix_list : IxR _ (rIxL K)) (pv 0) pe_int (fun _ _ => rfl)) pe_int) (pg_sub (pv 0) pe_int set_list))
      (pss_one (ps_if (pt_cmpR op_ge (pe_callB Go.c_abs (by rfl) T.n_abs boot_abs (pa_cons (pv 2) pa_nil)) (pe_op op_pow pe_int pe_int) (nomark _)) (pss_one (ps_asg (pe_callB Go.c_abs (by rfl) T.n_abs boot_abs (pa_cons (pv 2) pa_nil)) (pg_sub (pv 0) pe_int set_list))) (pss_one (ps_asg (pe_op op_mod (pe_callTy Go.c_int (by rfl) T.n_int boot_int (pa_cons (pe_op op_add (pe_op op_add (pe_op op_mul (pe_ix (ix_list : IxR _ (rIxL K)) (pv 0) pe_int (fun _ _ => rfl)) pe_int) (pe_op op_mul (pe_op op_mod (pe_callTy Go.c_int (by rfl) T.n_int boot_int (pa_cons (pv 2) pa_nil)) pe_int) pe_int)) pe_int) pa_nil)) pe_int) (pg_sub (pv 0) pe_int set_list))))))) pss_nil)
      (pss_cons (ps_if (pt_cmpR op_gt (pe_ix (ix_list : IxR _ (rIxL K)) (pv 0) pe_int (fun _ _ => rfl)) pe_int (nomark _)) (pss_cons (ps_set (i := 3) sc_law_draw.nd rfl (Or.inl rfl) (pe_op op_mod (pe_callTy Go.c_int (by rfl) T.n_int boot_int (pa_cons (pe_ix (ix_list : IxR _ (rIxL K)) (pv 0) pe_int (fun _ _ => rfl)) pa_nil)) (pv 1)))
      (pss_cons (ps_asg (pe_op op_fdiv (pe_ix (ix_list : IxR _ (rIxL K)) (pv 0) pe_int (fun _ _ => rfl)) (pv 1)) (pg_sub (pv 0) pe_int set_list))
      (pss_one (ps_ret (pv 3))))) pss_nil)
      (pss_cons (ps_set (i := 4) sc_law_draw.nd rfl (Or.inl rfl) (pe_callTy Go.c_int (by rfl) T.n_int boot_int (pa_cons (pe_ix (ix_list : IxR _ (rIxL K)) (pv 0) pe_int (fun _ _ => rfl)) pa_nil)))
      (pss_cons (ps_asg (pe_op op_mod (pe_callTy Go.c_int (by rfl) T.n_int boot_int (pa_cons (pe_op op_add (pe_op op_add (pe_op op_add (pe_op op_mul (pe_op op_mul (pv 4) (pv 4)) pe_int) (pe_op op_mul (pv 4) pe_int)) (pe_op op_mul (pe_ix (ix_list : IxR _ (rIxL K)) (pv 0) pe_int (fun _ _ => rfl)) pe_int)) pe_int) pa_nil)) pe_int) (pg_sub (pv 0) pe_int set_list))
      (pss_one (ps_ret (pe_op op_mod (pe_callTy Go.c_int (by rfl) T.n_int boot_int (pa_cons (pe_op op_add (pe_op op_fdiv (pe_ix (ix_list : IxR _ (rIxL K)) (pv 0) pe_int (fun _ _ => rfl)) pe_int) (pe_op op_mul (pe_op op_mod (pe_callTy Go.c_int (by rfl) T.n_int boot_int (pa_cons (pe_ix (ix_list : IxR _ (rIxL K)) (pv 0) pe_int (fun _ _ => rfl)) pa_nil)) pe_int) pe_int)) pa_nil)) (pv 1))))))))), ?_⟩
    rw [show L2.start N_law_draw [V.ref b, V.int d] = [some (V.ref b), some (V.int d), none, none, none] from rfl]
    try dsimp only [cxOf, Cx.nox]
    tm_at "go"
    refine Go.cut (fun σ' H' => ∃ (y2 : Option V), σ' = [some (.ref b), some (.int d), y2, none, none] ∧ Stp b H H' ∧ Bag H' b l) ?_ ?_
    · tm_at "go"
      · rename_i hi
        have hi' : i < ns.length := by
          rw [List.length_map] at hi
          omega
        have gi : atI (ns.map V.int) (i : Int) = some (.int ns[i]) := atI_nat (by rw [List.getElem?_map, List.getElem?_eq_getElem hi']; rfl)
        tm_at "go"
        · exact ⟨_, rfl, by tm_at "but", ns, i + 1, _, _, _, by assumption, by tm_at "hpO", nlb, hlen, by assumption, by omega, by omega⟩
        · exact ⟨_, rfl, by tm_at "but", ns, i + 1, r, _, _, by assumption, by tm_at "hpO", nlb, hlen, r0, by omega, by omega⟩
      · exact ⟨_, rfl, by tm_at "but", ns, i, r, _, _, by assumption, by tm_at "hpO", nlb, hlen, r0, by omega, by omega⟩
      · exact ⟨_, rfl, by tm_at "but", ns, i, r, _, _, by assumption, by tm_at "hpO", nlb, hlen, r0, by omega, by omega⟩
    · rintro σ' H1 ⟨y2, rfl, s1, ns, i, r, m, n, hb1, hl1, nlb, hlen, r0, m0, m1⟩
      tm_at "go"
      · exact k _ _ (by tm_at "but") ⟨ns, i, r / d, m, n, by assumption, by tm_at "hpO", nlb, hlen, Int.ediv_nonneg r0 (Int.le_of_lt d0), m0, m1⟩ (Int.emod_nonneg _ (by omega)) (Int.emod_lt_of_pos _ d0)
      · exact k _ _ (by tm_at "but") ⟨ns, i, r, _, n, by assumption, by tm_at "hpO", nlb, hlen, r0, by omega, by omega⟩ (Int.emod_nonneg _ (by omega)) (Int.emod_lt_of_pos _ d0)
end

/-! ### data: what a value stands for; none of its lists is the bag -/
/-- a text of ordinary size and signs -/
def StrK (z : Str) : Prop := z.cps.size ≤ 100000 ∧ ∀ c ∈ z.cps.toList, c < 1114112
mutual
inductive Dt (K : PySem.W.Frag) (H : Hp) (b : Addr) : V → PyData → Prop
  | non : Dt K H b .non .none
  | bl (k : Bool) : Dt K H b (.bl k) (.bool k)
  | int (i : Int) : Dt K H b (.int i) (.int i)
  | str {z : Str} (h : StrK z) : Dt K H b (.str z) (.str z)
  | lst {a : Addr} {xs : List V} {ds : List PyData} : SqL K H a xs → a ≠ b → xs.length ≤ 100000 → DtA K H b xs ds → Dt K H b (.ref a) (.list ds)
  | tup {a : Addr} {xs : List V} {ds : List PyData} : SqT K H a xs → a ≠ b → xs.length ≤ 100000 → DtA K H b xs ds → Dt K H b (.ref a) (.tuple ds)
inductive DtA (K : PySem.W.Frag) (H : Hp) (b : Addr) : List V → List PyData → Prop
  | nil : DtA K H b [] []
  | cons {v : V} {vs : List V} {d : PyData} {ds : List PyData} : Dt K H b v d → DtA K H b vs ds → DtA K H b (v :: vs) (d :: ds)
end
mutual
theorem Dt.but {K : PySem.W.Frag} {H H' : Hp} {b : Addr} (s : Go.But b H H') : ∀ {v : V} {d : PyData}, Dt K H b v d → Dt K H' b v d
  | _, _, .non => .non
  | _, _, .bl k => .bl k
  | _, _, .int i => .int i
  | _, _, .str h => .str h
  | _, _, .lst h n l r => .lst (Go.lB s n h) n l (DtA.but s r)
  | _, _, .tup h n l r => .tup (Go.tB s n h) n l (DtA.but s r)
theorem DtA.but {K : PySem.W.Frag} {H H' : Hp} {b : Addr} (s : Go.But b H H') : ∀ {v : List V} {d : List PyData}, DtA K H b v d → DtA K H' b v d
  | _, _, .nil => .nil
  | _, _, .cons h r => .cons (Dt.but s h) (DtA.but s r)
end
theorem Dt.same {K : PySem.W.Frag} {H H' : Hp} {b : Addr} (s : Same H H') {v : V} {d : PyData} (h : Dt K H b v d) : Dt K H' b v d := h.but (Go.sb s)
theorem DtA.len {K : PySem.W.Frag} {H : Hp} {b : Addr} : ∀ {xs : List V} {ds : List PyData}, DtA K H b xs ds → xs.length = ds.length
  | _, _, .nil => rfl
  | _, _, .cons _ r => congrArg (· + 1) r.len
theorem DtA.get {K : PySem.W.Frag} {H : Hp} {b : Addr} : ∀ {xs : List V} {ds : List PyData}, DtA K H b xs ds → ∀ {i : Nat} {v : V}, xs[i]? = some v → ∃ d, ds[i]? = some d ∧ Dt K H b v d
  | _, _, .nil, _, _, h => by cases h
  | _, _, .cons h _, 0, _, e => by
    cases e
    exact ⟨_, rfl, h⟩
  | _, _, .cons _ r, i + 1, v, e => r.get (i := i) e
/-! how deep -/
mutual
def dep : PyData → Nat
  | .list xs => depA xs + 1
  | .tuple xs => depA xs + 1
  | _ => 0
def depA : List PyData → Nat
  | [] => 0
  | x :: xs => max (dep x) (depA xs)
end
theorem dep_le : ∀ {xs : List PyData} {i : Nat} {d : PyData}, xs[i]? = some d → dep d ≤ depA xs
  | [], _, _, h => by cases h
  | x :: xs, 0, d, h => by
    cases h
    unfold depA
    exact Nat.le_max_left _ _
  | x :: xs, i + 1, d, h => by
    unfold depA
    exact Nat.le_trans (dep_le (xs := xs) (i := i) h) (Nat.le_max_right _ _)
theorem tyx_l {K : PySem.W.Frag} {H : Hp} {a : Addr} {xs : List V} (h : SqL K H a xs) : TyX K H (.ref a) (.type "list") := by
  rcases h with (h | ⟨o, h⟩) | ⟨o, its, n, h, hc, _⟩
  · exact .base (.lst h)
  · exact .base (.frz h)
  · exact .kList h hc
theorem tyx_t {K : PySem.W.Frag} {H : Hp} {a : Addr} {xs : List V} (h : SqT K H a xs) : TyX K H (.ref a) (.type "tuple") := by
  rcases h with (h | ⟨o, h⟩) | ⟨o, its, n, h, hc, _⟩
  · exact .base (.tup h)
  · exact .fTuple h
  · exact .kTuple h hc
local macro_rules | `(tactic| tm_at "dt") => `(tactic| first | assumption | exact Dt.non | exact Dt.bl _ | exact Dt.int _ | (refine' Dt.same (by assumption) ?z0; (case z0 => tm_at "dt")) | (refine' Dt.but (by assumption) ?z0; (case z0 => tm_at "dt")))
local macro_rules | `(tactic| tm_at "tyx") => `(tactic| first | assumption | exact .base .non | exact .base (.bl _) | exact .base (.int _) | exact .base (.str _) | (refine' tyx_t ?z0; (case z0 => tm_at "hpT")) | (refine' tyx_l ?z0; (case z0 => tm_at "hpL")))
local macro_rules | `(tactic| tm_at "kit") => `(tactic| first | assumption | exact kit_ty (show kitB _ _ = some false by decide +kernel) | exact kit_ty (show kitB _ _ = some true by decide +kernel))
local macro_rules | `(tactic| tm_at "kitB") => `(tactic| first | exact (show kitB _ _ = some false by decide +kernel) | exact (show kitB _ _ = some true by decide +kernel))
theorem kitA2 {K : PySem.W.Frag} {T A B : String} {a b : Bool} (h1 : kitB T A = some a) (h2 : kitB T B = some b) : PySem.W.kitAny K (.type T) [.type A, .type B] = some (a || b) := by
  cases a with
  | true => exact kitAny_cons (b := true) (kit_ty h1) (fun e => nomatch e) fun _ => rfl
  | false =>
    refine kitAny_cons (b := false) (kit_ty h1) (fun _ => ?_) fun e => nomatch e
    cases b with
    | true => exact kitAny_cons (b := true) (kit_ty h2) (fun e => nomatch e) fun _ => rfl
    | false => exact kitAny_cons (b := false) (kit_ty h2) (fun _ => kitAny_nil) fun e => nomatch e
theorem isi2 {K : PySem.W.Frag} {H : Hp} {Q : VK} {x : V} {tp : Addr} {T A B : String} {a b : Bool} (h : H tp = some (.tup [.ty A, .ty B])) (h1 : TyX K H x (.type T)) (h2 : kitB T A = some a) (h3 : kitB T B = some b) (q : Q (.bl (a || b)) H) : rIsiT K [x, .ref tp] H Q :=
  ⟨x, tp, _, _, _, _, rfl, h, .cons (.ty _) (.cons (.ty _) .nil), h1, kitA2 h2 h3, q⟩
local macro_rules | `(tactic| tm_at "sp") => `(tactic| first
  | ((with_reducible refine' Go.isi ?a ?b ?c ?_); (case a => exact .ty _); (case b => tm_at "tyx"); (case c => tm_at "kit"))
  | ((with_reducible refine' isi2 ?a ?b ?c ?d ?_); (case a => tm_at "hpO"); (case b => tm_at "tyx"); (case c => tm_at "kitB"); (case d => tm_at "kitB")))
section
variable {P : Program} {w : World} {K : PySem.W.Frag} {mg : Str → Option Value} {base : Heap} {Z : Fs}
/-! ### _law_same -/
def sp_law_same (K : PySem.W.Frag) (n : Nat) : Sp := fun vs H Q _ => ∃ (x y : V) (b : Addr) (d : PyData), vs = [x, y] ∧ Dt K H b x d ∧ Dt K H b y d ∧ dep d ≤ n ∧ ∀ H' : Hp, Same H H' → Q (.bl true) H'
theorem i_same {n : Nat} {H : Hp} {Q : VK} {E : XK} {x y : V} {b : Addr} {d : PyData} (h1 : Dt K H b x d) (h2 : Dt K H b y d) (h3 : dep d ≤ n) (q : ∀ H' : Hp, Same H H' → Q (.bl true) H') : sp_law_same K n [x, y] H Q E := ⟨x, y, b, d, rfl, h1, h2, h3, q⟩
theorem ok_law_same (T : Txt K w mg Z) : ∀ n : Nat, FnOk P w K mg base CX0 (n + 1) Z.a_law_same Z.d_law_same ["_law_found", "_law_due"] (sp_law_same K n)
  | 0 => by
    refine T.F_law_same.ok sc_law_same (fun vs H Q E h => ?_) (fun cdv A outer s H vs Q E hr h => ?_)
    · obtain ⟨x, y, b, d, rfl, _⟩ := h
      rfl
    · obtain ⟨x, y, b, d, rfl, hx, hy, hd, k⟩ := h
      refine ⟨_, (pss_cons (ps_if (PW.pt (pw_or (pt_cmp (pc_isN (pv 1))) (pw_or1 (pt_cmp (pc_isN (pv 0)))))) (pss_one (ps_ret (pe_and (pe_cmp (pc_isN (pv 1)) rfl) (pe_one (pe_cmp (pc_isN (pv 0)) rfl))))) pss_nil)
      (pss_cons (ps_if (pt_val (pe_callB (call_isiT : CallR _ _ (rIsiT K)) (by rfl) T.n_isinstance boot_isinstance (pa_cons (pv 1) (pa_cons (pe_tup (pa_cons (pe_bltn (v := .ty "list") (by rfl) T.n_list boot_list rfl) (pa_cons (pe_bltn (v := .ty "tuple") (by rfl) T.n_tuple boot_tuple rfl) pa_nil))) pa_nil)))) pss_never pss_nil)
      (pss_cons (ps_if (PW.pt (pw_or (pt_cmpR op_ne (pe_callB (call_isi : CallR _ _ (rIsi K)) (by rfl) T.n_isinstance boot_isinstance (pa_cons (pv 1) (pa_cons (pe_bltn (v := .ty "bool") (by rfl) T.n_bool boot_bool rfl) pa_nil))) (pe_callB (call_isi : CallR _ _ (rIsi K)) (by rfl) T.n_isinstance boot_isinstance (pa_cons (pv 0) (pa_cons (pe_bltn (v := .ty "bool") (by rfl) T.n_bool boot_bool rfl) pa_nil))) (nomark _)) (pw_or1 (pt_cmpR op_ne (pe_callB (call_isi : CallR _ _ (rIsi K)) (by rfl) T.n_isinstance boot_isinstance (pa_cons (pv 1) (pa_cons (pe_bltn (v := .ty "int") (by rfl) T.n_int boot_int rfl) pa_nil))) (pe_callB (call_isi : CallR _ _ (rIsi K)) (by rfl) T.n_isinstance boot_isinstance (pa_cons (pv 0) (pa_cons (pe_bltn (v := .ty "int") (by rfl) T.n_int boot_int rfl) pa_nil))) (nomark _))))) (pss_one (ps_ret pe_bl)) pss_nil)
      (pss_one (ps_ret (pe_and (pe_cmpR op_eq (pe_callB (call_isi : CallR _ _ (rIsi K)) (by rfl) T.n_isinstance boot_isinstance (pa_cons (pv 1) (pa_cons (pe_bltn (v := .ty "str") (by rfl) T.n_str boot_str rfl) pa_nil))) (pe_callB (call_isi : CallR _ _ (rIsi K)) (by rfl) T.n_isinstance boot_isinstance (pa_cons (pv 0) (pa_cons (pe_bltn (v := .ty "str") (by rfl) T.n_str boot_str rfl) pa_nil))) (nomark _)) (pe_one (pe_cmpR op_eq (pv 0) (pv 1) (nomark _))))))))), ?_⟩
      rw [show L2.start N_law_same [x, y] = [some (x), some (y), none, none] from rfl]
      try dsimp only [cxOf, Cx.nox]
      cases hx with
      | non => cases hy; tm_at "go"; tm_at "tru"; exact k _ (by tm_at "same")
      | bl v => cases hy; tm_at "go"; tm_at "tru"; exact k _ (by tm_at "same")
      | int v => cases hy; tm_at "go"; tm_at "tru"; exact k _ (by tm_at "same")
      | str v => cases hy; tm_at "go"; tm_at "tru"; exact k _ (by tm_at "same")
      | lst _ _ _ _ => exact absurd hd (by simp [dep])
      | tup _ _ _ _ => exact absurd hd (by simp [dep])
  | n + 1 => by
    have G_law_same : FnOk P w K mg base CX0 (n + 1) Z.a_law_same Z.d_law_same ["_law_found", "_law_due"] (sp_law_same K n) := ok_law_same T n
    refine T.F_law_same.ok sc_law_same (fun vs H Q E h => ?_) (fun cdv A outer s H vs Q E hr h => ?_)
    · obtain ⟨x, y, b, d, rfl, _⟩ := h
      rfl
    · obtain ⟨x, y, b, d, rfl, hx, hy, hd, k⟩ := h
      refine ⟨_, (pss_cons (ps_if (PW.pt (pw_or (pt_cmp (pc_isN (pv 1))) (pw_or1 (pt_cmp (pc_isN (pv 0)))))) (pss_one (ps_ret (pe_and (pe_cmp (pc_isN (pv 1)) rfl) (pe_one (pe_cmp (pc_isN (pv 0)) rfl))))) pss_nil)
      (pss_cons (ps_if (pt_val (pe_callB (call_isiT : CallR _ _ (rIsiT K)) (by rfl) T.n_isinstance boot_isinstance (pa_cons (pv 1) (pa_cons (pe_tup (pa_cons (pe_bltn (v := .ty "list") (by rfl) T.n_list boot_list rfl) (pa_cons (pe_bltn (v := .ty "tuple") (by rfl) T.n_tuple boot_tuple rfl) pa_nil))) pa_nil)))) (pss_cons (ps_if (PW.pt (pw_or (pt_cmpR op_ne (pe_callB (call_isi : CallR _ _ (rIsi K)) (by rfl) T.n_isinstance boot_isinstance (pa_cons (pv 0) (pa_cons (pe_bltn (v := .ty "list") (by rfl) T.n_list boot_list rfl) pa_nil))) (pe_callB (call_isi : CallR _ _ (rIsi K)) (by rfl) T.n_isinstance boot_isinstance (pa_cons (pv 1) (pa_cons (pe_bltn (v := .ty "list") (by rfl) T.n_list boot_list rfl) pa_nil))) (nomark _)) (pw_or1 (pt_cmpR op_ne (pe_callB (call_isi : CallR _ _ (rIsi K)) (by rfl) T.n_isinstance boot_isinstance (pa_cons (pv 0) (pa_cons (pe_bltn (v := .ty "tuple") (by rfl) T.n_tuple boot_tuple rfl) pa_nil))) (pe_callB (call_isi : CallR _ _ (rIsi K)) (by rfl) T.n_isinstance boot_isinstance (pa_cons (pv 1) (pa_cons (pe_bltn (v := .ty "tuple") (by rfl) T.n_tuple boot_tuple rfl) pa_nil))) (nomark _))))) (pss_one (ps_ret pe_bl)) pss_nil)
      (pss_one (ps_ret (pe_and (pe_cmpR op_eq (pe_callB (Go.c_len : CallR _ _ (Go.RLen K)) (by rfl) T.n_len boot_len (pa_cons (pv 0) pa_nil)) (pe_callB (Go.c_len : CallR _ _ (Go.RLen K)) (by rfl) T.n_len boot_len (pa_cons (pv 1) pa_nil)) (nomark _)) (pe_one (pe_callB (cr_all rfl) (by rfl) T.n_all boot_all (pa_cons (pe_lc (own := [("_law_a", 2), ("_law_b", 3)]) (g := gTup K 2 (gCons (gName 2) (gCons (gName 3) gNil))) (tt := tYes) rfl sc_law_same.nd (RZ.pi_zipA (by rfl) T.n_zip (pa_cons (pv 0) (pa_cons (pv 1) pa_nil))) (blkOk_by (N := N_law_same) (sc := defScope s_law_same) (by decide +kernel)) (fun _ _ _ _ _ => pg_tup rfl (pgs_cons (pg_name (i := 2) sc_law_same.nd rfl (Or.inl rfl)) (pgs_cons (pg_name (i := 3) sc_law_same.nd rfl (Or.inl rfl)) pgs_nil))) (fun _ _ _ _ _ => pts_nil) (fun _ _ _ _ _ => (pe_call G_law_same (hr.mono (by omega)) (by rfl) T.m_law_same T.F_law_same.kp T.b_law_same .nil pass0 (pa_cons (pv 2) (pa_cons (pv 3) pa_nil))))) pa_nil))))))) pss_nil)
      (pss_cons (ps_if (PW.pt (pw_or (pt_cmpR op_ne (pe_callB (call_isi : CallR _ _ (rIsi K)) (by rfl) T.n_isinstance boot_isinstance (pa_cons (pv 1) (pa_cons (pe_bltn (v := .ty "bool") (by rfl) T.n_bool boot_bool rfl) pa_nil))) (pe_callB (call_isi : CallR _ _ (rIsi K)) (by rfl) T.n_isinstance boot_isinstance (pa_cons (pv 0) (pa_cons (pe_bltn (v := .ty "bool") (by rfl) T.n_bool boot_bool rfl) pa_nil))) (nomark _)) (pw_or1 (pt_cmpR op_ne (pe_callB (call_isi : CallR _ _ (rIsi K)) (by rfl) T.n_isinstance boot_isinstance (pa_cons (pv 1) (pa_cons (pe_bltn (v := .ty "int") (by rfl) T.n_int boot_int rfl) pa_nil))) (pe_callB (call_isi : CallR _ _ (rIsi K)) (by rfl) T.n_isinstance boot_isinstance (pa_cons (pv 0) (pa_cons (pe_bltn (v := .ty "int") (by rfl) T.n_int boot_int rfl) pa_nil))) (nomark _))))) (pss_one (ps_ret pe_bl)) pss_nil)
      (pss_one (ps_ret (pe_and (pe_cmpR op_eq (pe_callB (call_isi : CallR _ _ (rIsi K)) (by rfl) T.n_isinstance boot_isinstance (pa_cons (pv 1) (pa_cons (pe_bltn (v := .ty "str") (by rfl) T.n_str boot_str rfl) pa_nil))) (pe_callB (call_isi : CallR _ _ (rIsi K)) (by rfl) T.n_isinstance boot_isinstance (pa_cons (pv 0) (pa_cons (pe_bltn (v := .ty "str") (by rfl) T.n_str boot_str rfl) pa_nil))) (nomark _)) (pe_one (pe_cmpR op_eq (pv 0) (pv 1) (nomark _))))))))), ?_⟩
      rw [show L2.start N_law_same [x, y] = [some (x), some (y), none, none] from rfl]
      try dsimp only [cxOf, Cx.nox]
      cases hx with
      | non => cases hy; tm_at "go"; tm_at "tru"; exact k _ (by tm_at "same")
      | bl v => cases hy; tm_at "go"; tm_at "tru"; exact k _ (by tm_at "same")
      | int v => cases hy; tm_at "go"; tm_at "tru"; exact k _ (by tm_at "same")
      | str v => cases hy; tm_at "go"; tm_at "tru"; exact k _ (by tm_at "same")
      | @lst a1 xs ds h1 n1 l1 r1 =>
        cases hy with
        | @lst a2 ys _ h2 n2 l2 r2 =>
          have el : xs.length = ys.length := r1.len.trans r2.len.symm
          tm_at "go"
          · refine Go.lc_w (Go.walkZ (K := K) (xs := xs) (ys := ys) (n := xs.length) (by omega)) (fun D i H' => Same H H' ∧ H D = none ∧ i ≤ 100000 ∧ H' D = some (.lst ((List.replicate i true).map V.bl))) (by tm_at "wipe") ?_ ?_ ?_ ?_
            · intro D H2 n0 s2 e2
              exact ⟨by tm_at "same", by tm_at "non", by omega, e2⟩
            · intro D i H2 hi ⟨s2, _, _, e2⟩
              exact ⟨by tm_at "hpL", by tm_at "hpL"⟩
            · rintro D i v H2 H3 hi ⟨s2, nD, li, e2⟩ ⟨T1, u, t, rfl, hT, s3, eT, hu, ht⟩
              obtain ⟨du, e3, hu'⟩ := r1.get hu
              obtain ⟨dt, e4, ht'⟩ := r2.get ht
              rw [e3] at e4
              cases e4
              have hdd : dep du ≤ n := by
                have q := dep_le e3
                simp only [dep] at hd
                omega
              tm_at "go"
              refine i_same (b := b) (d := du) (by tm_at "dt") (by tm_at "dt") hdd fun H5 s5 => ?_
              tm_at "lcEnd"
              refine ⟨by tm_at "same", nD, by omega, ?_⟩
              rename_i e6
              rw [e6, List.replicate_succ', List.map_append]
              rfl
            · rintro D H2 ⟨s2, nD, li, e2⟩
              tm_at "go"
              rw [Go.all_rep]
              exact k _ s2
      | @tup a1 xs ds h1 n1 l1 r1 =>
        cases hy with
        | @tup a2 ys _ h2 n2 l2 r2 =>
          have el : xs.length = ys.length := r1.len.trans r2.len.symm
          tm_at "go"
          · refine Go.lc_w (Go.walkZT (K := K) (xs := xs) (ys := ys) (n := xs.length) (by omega)) (fun D i H' => Same H H' ∧ H D = none ∧ i ≤ 100000 ∧ H' D = some (.lst ((List.replicate i true).map V.bl))) (by tm_at "wipe") ?_ ?_ ?_ ?_
            · intro D H2 n0 s2 e2
              exact ⟨by tm_at "same", by tm_at "non", by omega, e2⟩
            · intro D i H2 hi ⟨s2, _, _, e2⟩
              exact ⟨by tm_at "hpT", by tm_at "hpT"⟩
            · rintro D i v H2 H3 hi ⟨s2, nD, li, e2⟩ ⟨T1, u, t, rfl, hT, s3, eT, hu, ht⟩
              obtain ⟨du, e3, hu'⟩ := r1.get hu
              obtain ⟨dt, e4, ht'⟩ := r2.get ht
              rw [e3] at e4
              cases e4
              have hdd : dep du ≤ n := by
                have q := dep_le e3
                simp only [dep] at hd
                omega
              tm_at "go"
              refine i_same (b := b) (d := du) (by tm_at "dt") (by tm_at "dt") hdd fun H5 s5 => ?_
              tm_at "lcEnd"
              refine ⟨by tm_at "same", nD, by omega, ?_⟩
              rename_i e6
              rw [e6, List.replicate_succ', List.map_append]
              rfl
            · rintro D H2 ⟨s2, nD, li, e2⟩
              tm_at "go"
              rw [Go.all_rep]
              exact k _ s2
end

/-! ### the program's halves -/
def numD (lo hi : Int) : PyData → Bool
  | .int i => decide (lo ≤ i) && decide (i ≤ hi)
  | _ => false
theorem memc {α : Type} {P : α → Prop} {x : α} {l : List α} (h : P x) (t : ∀ y ∈ l, P y) : ∀ y ∈ x :: l, P y := fun y m => by
  rcases List.mem_cons.mp m with e | m
  · rw [e]
    exact h
  · exact t y m
theorem mem0 {α : Type} {P : α → Prop} : ∀ y ∈ ([] : List α), P y := fun _ m => nomatch m
local macro_rules | `(tactic| tm_at "all") => `(tactic| repeat' (first | exact mem0 | refine memc ?_ ?_))
section
variable {P : Program} {w : World} {K : PySem.W.Frag} {mg : Str → Option Value} {base : Heap} {Z : Fs}
def sp_is_number (K : PySem.W.Frag) : Sp := fun vs H Q _ => ∃ (v : V) (lo hi : Int) (b : Addr) (d : PyData), vs = [v, .int lo, .int hi] ∧ Dt K H b v d ∧ ∀ H' : Hp, Same H H' → Q (.bl (numD lo hi d)) H'
theorem i_is_number {H : Hp} {Q : VK} {E : XK} {v : V} {lo hi : Int} {b : Addr} {d : PyData} (h : Dt K H b v d) (q : ∀ H' : Hp, Same H H' → Q (.bl (numD lo hi d)) H') : sp_is_number K [v, .int lo, .int hi] H Q E := ⟨v, lo, hi, b, d, rfl, h, q⟩
theorem ok_is_number (T : Txt K w mg Z) : FnOk P w K mg base CX0 1 Z.a_is_number Z.d_is_number ["value", "least", "most"] (sp_is_number K) := by
  refine T.F_is_number.ok sc_is_number (fun vs H Q E h => ?_) (fun cdv A outer s H vs Q E hr h => ?_)
  · obtain ⟨v, lo, hi, b, d, rfl, _⟩ := h
    rfl
  · obtain ⟨v, lo, hi, b, d, rfl, h, k⟩ := h
    refine ⟨_, (pss_cons (ps_if (PW.pt (pw_or (pt_val (pe_callB (call_isi : CallR _ _ (rIsi K)) (by rfl) T.n_isinstance boot_isinstance (pa_cons (pv 0) (pa_cons (pe_bltn (v := .ty "bool") (by rfl) T.n_bool boot_bool rfl) pa_nil)))) (pw_or1 (pt_not (pt_val (pe_callB (call_isi : CallR _ _ (rIsi K)) (by rfl) T.n_isinstance boot_isinstance (pa_cons (pv 0) (pa_cons (pe_bltn (v := .ty "int") (by rfl) T.n_int boot_int rfl) pa_nil)))))))) (pss_one (ps_ret pe_bl)) pss_nil)
      (pss_one (ps_ret (pe_chain op_le op_le (pv 1) (pv 0) (pv 2))))), ?_⟩
    rw [show L2.start N_is_number [v, V.int lo, V.int hi] = [some (v), some (V.int lo), some (V.int hi)] from rfl]
    try dsimp only [cxOf, Cx.nox]
    cases h <;> tm_at "go"
    all_goals (refine Go.bE ?_ (k _ (Same.refl _)); simp [numD, *])
theorem ok_law_within (T : Txt K w mg Z) : FnOk P w K mg base CX0 1 Z.a_law_within Z.d_law_within ["_law_thing", "_law_low_y", "_law_high_y"] (sp_is_number K) := by
  refine T.F_law_within.ok sc_law_within (fun vs H Q E h => ?_) (fun cdv A outer s H vs Q E hr h => ?_)
  · obtain ⟨v, lo, hi, b, d, rfl, _⟩ := h
    rfl
  · obtain ⟨v, lo, hi, b, d, rfl, h, k⟩ := h
    refine ⟨_, (pss_one (ps_ret (pe_and (pe_callB (call_isi : CallR _ _ (rIsi K)) (by rfl) T.n_isinstance boot_isinstance (pa_cons (pv 0) (pa_cons (pe_bltn (v := .ty "int") (by rfl) T.n_int boot_int rfl) pa_nil))) (pe_and (pe_not (pe_callB (call_isi : CallR _ _ (rIsi K)) (by rfl) T.n_isinstance boot_isinstance (pa_cons (pv 0) (pa_cons (pe_bltn (v := .ty "bool") (by rfl) T.n_bool boot_bool rfl) pa_nil)))) (pe_and (pe_cmpR op_le (pv 1) (pv 0) (nomark _)) (pe_one (pe_cmpR op_le (pv 0) (pv 2) (nomark _)))))))), ?_⟩
    rw [show L2.start N_law_within [v, V.int lo, V.int hi] = [some (v), some (V.int lo), some (V.int hi)] from rfl]
    try dsimp only [cxOf, Cx.nox]
    cases h <;> tm_at "go"
    all_goals (refine Go.bE ?_ (k _ (Same.refl _)); simp [numD, *])
end
local macro_rules | `(tactic| tm_at "sp") => `(tactic| first
  | ((with_reducible refine' i_draw ?b ?x ?y ?_); (case b => tm_at "bag"); (case x => (first | omega | decide)); (case y => (first | omega | decide)); intro _ _ _ _ _ _)
  | ((with_reducible refine' i_is_number ?h ?_); (case h => tm_at "dt"); intro _ _))
section
variable {P : Program} {w : World} {K : PySem.W.Frag} {mg : Str → Option Value} {base : Heap} {Z : Fs}
def sp_law_of (K : PySem.W.Frag) : Sp := fun vs H Q _ => ∃ (b l a : Addr) (xs : List V), vs = [.ref b, .ref a] ∧ Bag H b l ∧ SqL K H a xs ∧ a ≠ b ∧ 0 < xs.length ∧ xs.length ≤ 100000 ∧ ∀ (H' : Hp) (v : V), Stp b H H' → Bag H' b l → v ∈ xs → Q v H'
theorem i_of {H : Hp} {Q : VK} {E : XK} {b l a : Addr} {xs : List V} (hB : Bag H b l) (hx : SqL K H a xs) (ne : a ≠ b) (h0 : 0 < xs.length) (h1 : xs.length ≤ 100000) (q : ∀ (H' : Hp) (v : V), Stp b H H' → Bag H' b l → v ∈ xs → Q v H') : sp_law_of K [.ref b, .ref a] H Q E := ⟨b, l, a, xs, rfl, hB, hx, ne, h0, h1, q⟩
theorem ok_law_of (T : Txt K w mg Z) : FnOk P w K mg base CX0 2 Z.a_law_of Z.d_law_of ["_law_bag_here", "_law_things"] (sp_law_of K) := by
  have G_law_draw := ok_law_draw (P := P) (base := base) T
  refine T.F_law_of.ok sc_law_of (fun vs H Q E h => ?_) (fun cdv A outer s H vs Q E hr h => ?_)
  · obtain ⟨b, l, a, xs, rfl, _⟩ := h
    rfl
  · obtain ⟨b, l, a, xs, rfl, hB, hx, nab, h0, h1, k⟩ := h
    refine ⟨_, (pss_one (ps_ret (pe_ix ix_seq (pv 1) (pe_call G_law_draw (hr.mono (by omega)) (by rfl) T.m_law_draw T.F_law_draw.kp T.b_law_draw .nil pass0 (pa_cons (pv 0) (pa_cons (pe_callB (Go.c_len : CallR _ _ (Go.RLen K)) (by rfl) T.n_len boot_len (pa_cons (pv 1) pa_nil)) pa_nil))) (fun _ _ => rfl)))), ?_⟩
    rw [show L2.start N_law_of [V.ref b, V.ref a] = [some (V.ref b), some (V.ref a)] from rfl]
    try dsimp only [cxOf, Cx.nox]
    tm_at "go"
    rename_i v0 v1
    refine .inl (Go.ixLm (by tm_at "hpL") v0 v1 fun v hm => ?_)
    tm_at "go"
    exact k _ _ (by tm_at "but") (by tm_at "bag") hm
end

open Lend LamX NdefX SupX
/-! ### errors of the program: what the written part says, their kinds -/
def FL : Str := PySem.Challenge.pw_leastimage_k12_cells_apart_and_together.main.file
/-- an error's class: what the written part says -/
structure ErrV (K : PySem.W.Frag) (mg : Str → Option Value) (x qual : Str) (st : Stmt) (C f : Addr) (fd : FuncData) : Prop where
  mgx : mg x = some (.ref C)
  oex : OexC K C
  ini : PySem.W.findIn K (.ref C) "__init__" = some (some (.ref f))
  tI : PySem.W.typeIn K (.ref f) = some (.type "function")
  sup : ∃ oc od osl dV kV doc pm an cda ct cc bmB, K.lookup f = some ⟨oc, od, .func fd, osl⟩ ∧ fd = PySem.W.ksFn "__init__" qual (defArgs st) (defBody st) (defScope st) dV kV doc pm an (.ref cda) ct cc ∧ SupF FL K mg "ValueError" "ValueError.__init__" "ValueError.__new__" bmB C f cc cda (defArgs st) qual ∧ ExcBaseFacts "ValueError" "ValueError.__new__" "ValueError.__init__" bmB
structure EKind where
  D : Addr
  code : Str
  attrs : List Str
def errD (k : EKind) (xs : List V) : List (Str × V) := ("code", .str k.code) :: (k.attrs.zip xs).reverse
structure KindOk (K : PySem.W.Frag) (mg : Str → Option Value) (k : EKind) : Prop where
  xf : XfC K k.D
  code : PySem.W.findIn K (.ref k.D) "code" = some none
  attr : ∀ a ∈ k.attrs, PySem.W.findIn K (.ref k.D) a = some none
  exm : ∃ cI cM, mg "ImageError" = some (.ref cI) ∧ mg "Missing" = some (.ref cM) ∧ PySem.W.exmAny K (.ref k.D) [.ref cI, .ref cM] = some true
/-- a class of errors: all of it -/
structure EC (K : PySem.W.Frag) (mg : Str → Option Value) (x qual : Str) (st : Stmt) (k : EKind) (f : Addr) (fd : FuncData) : Prop where
  V : ErrV K mg x qual st k.D f fd
  b : L2.Binds K fd ("self" :: k.attrs) []
  ok : KindOk K mg k
def sp_err1 (K : PySem.W.Frag) (D : Addr) (attr code : Str) : Sp := fun vs H Q _ => ∃ (a : Addr) (x : V) (c : Nat), vs = [.ref a, x] ∧ H a = some (exo a D none) ∧ Shows K H x c ∧ c ≤ 5000 ∧
  ∀ dx : Addr, H dx = none → dx ≠ a → Q .non (upd (upd (upd H dx (exd dx [(attr, x)])) a (exo a D (some dx))) dx (exd dx [("code", .str code), (attr, x)]))
/-- the error stands at d -/
structure ErrAt (H H' : Hp) (d : Addr) (k : EKind) (xs : List V) : Prop where
  new : H d = none
  same : Same H H'
  at_ : H' d = some (.xd (errD k xs))
theorem Shows.same {K : PySem.W.Frag} {H H' : Hp} {x : V} {c : Nat} (s : Same H H') (h : Shows K H x c) : Shows K H' x c := by
  rcases h with h | ⟨a, xs, ts, e, h | h, f, l⟩
  · exact .inl h
  · exact .inr ⟨a, xs, ts, e, .inl (Go.tS s h), f, l⟩
  · exact .inr ⟨a, xs, ts, e, .inr (Go.lS s h), f, l⟩
theorem mk_err {K : PySem.W.Frag} {D : Addr} {attr code : Str} {i c : Nat} {σ : L2.St} {G : Hp} {x : V} {E : XK} (hv : σ[i]? = some (some x)) (hs : Shows K G x c) (hc : c ≤ 5000) (hE : ∀ d G', ErrAt G G' d ⟨D, code, [attr]⟩ [x] → E (.ref D) (some d) G') :
    tMkO D (sp_err1 K D attr code) [] (tCons (tVar i) tNil) σ G E := by
  refine ⟨x, hv, (by show 1 ≤ 1000; decide), fun a ha => ⟨a, x, c, rfl, upd_same, Shows.same (Same.new ha) hs, hc, fun dx hd hn => ?_⟩⟩
  have gd : G dx = none := by
    rw [upd_ne hn] at hd
    exact hd
  refine ⟨rfl, dx, _, by rw [upd_ne (Ne.symm hn), upd_same], upd_same, gd, hE dx _ ⟨gd, fun b o e => ?_, upd_same⟩⟩
  have b1 : b ≠ dx := ne_of_none e gd
  have b2 : b ≠ a := ne_of_none e ha
  rw [upd_ne b1, del_ne b2, upd_ne b1, upd_ne b2, upd_ne b1, upd_ne b2]
  exact e
/-! ### the handled error -/
/-- p is an error of the class at C, its dict at d -/
structure ErrP (K : PySem.W.Frag) (H : Hp) (p : Addr × Obj) (C d : Addr) (fs : List (Str × V)) : Prop where
  cls : XfC K C
  at_ : p.2.cls = .ref C ∧ p.2.dict = some d ∧ ∃ vs, p.2.data = .fields vs
  dict : H d = some (.xd fs)
theorem ErrP.same {K : PySem.W.Frag} {H H' : Hp} {p : Addr × Obj} {C d : Addr} {fs : List (Str × V)} (s : Same H H') (h : ErrP K H p C d fs) : ErrP K H' p C d fs := ⟨h.cls, h.at_, s _ _ h.dict⟩
theorem pin {K : PySem.W.Frag} {p : Addr × Obj} {n : Str} {te : TE} {σ : L2.St} {H : Hp} {Q : VK} (q : te σ H fun x H1 => HotP.RPin K p n x H1 Q) : HotP.tPin K p n te σ H Q := q
theorem pin_in {K : PySem.W.Frag} {H : Hp} {p : Addr × Obj} {C d : Addr} {fs : List (Str × V)} {n : Str} {v : V} {Q : VK} (E : ErrP K H p C d fs) (hno : PySem.W.findIn K (.ref C) n = some none) (hl : fs.lookup n = some v) (q : Q v H) : HotP.RPin K p n (.ref p.1) H Q := ⟨rfl, C, d, fs, v, E.cls, hno, E.at_.1, E.at_.2.1, E.at_.2.2, E.dict, hl, q⟩
theorem inL {K : PySem.W.Frag} {H : Hp} {z : Str} {p : Addr} {xs : List V} {b : Bool} {Q : VK} (h : SqL K H p xs) (f : xs.all flatV = true) (e : inV (.str z) xs = b) (q : Q (.bl b) H) : rIn K false (.str z) (.ref p) H Q := ⟨p, xs, rfl, .inl h, rfl, f, by rw [e]; exact q⟩
local macro_rules | `(tactic| tm_at "err") => `(tactic| first | assumption | (refine' ErrP.same (by assumption) ?z0; (case z0 => tm_at "err")))
local macro_rules | `(tactic| tm_at "sp") => `(tactic| first
  | with_reducible refine pin ?_
  | ((with_reducible refine' pin_in ?E ?no ?l ?_); (case E => tm_at "err"); (case no => assumption); (case l => rfl))
  | ((with_reducible refine' inL (b := false) ?h ?f ?e ?_); (case h => tm_at "hpL"); (case f => rfl); (case e => decide +kernel)))
def TryE (EK : List EKind) (Q : VK) : XK := fun cls d H' => ∃ k, k ∈ EK ∧ ∃ (xs : List V) (dd : Addr), xs.length = k.attrs.length ∧ cls = .ref k.D ∧ d = some dd ∧ H' dd = some (.xd (errD k xs)) ∧
  ∀ (G : Hp) (u t : Addr), Same H' G → H' u = none → G u = some (.tup xs) → H' t = none → G t = some (.tup [.str k.code, .ref u]) → Q (.ref t) G
def TryQ (Q : VK) : VK := fun v H' => ∀ (G : Hp) (t : Addr), Same H' G → H' t = none → G t = some (.tup [.str "", v]) → Q (.ref t) G
def sp_law_field (K : PySem.W.Frag) (EK : List EKind) : Addr × Obj → Sp := fun p vs H Q _ => ∃ k, k ∈ EK ∧ ∃ (xs : List V) (d : Addr), xs.length = k.attrs.length ∧ vs = [.ref p.1] ∧ ErrP K H p k.D d (errD k xs) ∧ ∀ (H' : Hp) (t : Addr), Same H H' → H t = none → H' t = some (.tup xs) → Q (.ref t) H'
section
variable {P : Program} {w : World} {K : PySem.W.Frag} {mg : Str → Option Value} {base : Heap} {Z : Fs}
def sp_law_try (P : Program) (w : World) (K : PySem.W.Frag) (mg : Str → Option Value) (base : Heap) (EK : List EKind) (k : Nat) : Sp := fun vs H Q _ => ∃ (f : Addr) (fs : List (Addr × HO)) (sp : Hp → VK → XK → Prop), vs = [.ref f] ∧ Lend.AskOk P w K mg base (L2N.CX P w) k f fs sp ∧ (∀ p ∈ fs, H p.1 = some p.2) ∧
  ∀ (Q' : VK) (E' : XK), (∀ v H', TryQ Q v H' → Q' v H') → (∀ cls d H', TryE EK Q cls d H' → E' cls d H') → sp H Q' E'
theorem ok_law_try {EK : List EKind} {cI cM : Addr} {k : Nat} (T : Txt K w mg Z) (hk1 : 1 ≤ k) (EO : ∀ e ∈ EK, KindOk K mg e) (mI : mg "ImageError" = some (.ref cI)) (mM : mg "Missing" = some (.ref cM)) (G_law_field : HotP.FnHP P w K mg base C8.CX0 1 Z.a_law_field Z.d_law_field ["_law_e"] (sp_law_field K EK)) :
    FnOk P w K mg base CX0 (k + 1) Z.a_law_try Z.d_law_try ["_law_ask"] (sp_law_try P w K mg base EK k) := by
  refine T.F_law_try.ok sc_law_try (fun vs H Q E h => ?_) (fun cdv A outer s H vs Q E hr h => ?_)
  · obtain ⟨f, fs, sp, rfl, _⟩ := h
    rfl
  · obtain ⟨f, fs, sp, rfl, ok, hf, q⟩ := h
    have vis0 : Vis (defScope s_law_try) "_law_ask" := .inl (by decide +kernel)
    have vis1 : Vis (defScope s_law_try) "_law_e" := .inl (by decide +kernel)
    refine ⟨_, pss_one (LendN.ps_try_tup (i := 1) (c1 := .ref cI) (c2 := .ref cM)
      (tb := fun W => tRet (tTup (tCons (tC (.str "")) (tCons (LendN.tAskS P w K mg base k 0 W) tNil))))
      (ts := fun a oe cls d D' σ H' => (L2N.Zn cls d oe ∧ ∃ vs, oe.data = .fields vs) → (tRet (tTup (tCons (HotP.tPin K (a, oe) "code" (tVar 1)) (tCons (HotP.tCallHP (a, oe) (sp_law_field K EK) (tCons (tVar 1) tNil)) tNil)))) D' σ H')
      rfl rfl sc_law_try.nd rfl rfl ⟨rfl, by decide, .inl mI⟩ ⟨rfl, by decide, .inl mM⟩ (fun W pn xe tk _ => ?_) (fun a oe cls d pn hz hfd nB => ⟨fun pins s σ H D' I h => ?_⟩)), ?_⟩
    · exact pss_one (ps_ret (pe_tup (pa_cons pe_str (pa_cons (LendN.pe_askS hr tk rfl vis0) pa_nil))))
    · obtain ⟨vs0, hv0⟩ := hfd
      exact (pss_one (ps_ret (pe_tup (pa_cons (HotP.pe_pinf (p := (a, oe)) List.mem_cons_self (pe_var (i := 1) rfl vis1)) (pa_cons (HotP.pe_callHP (k := 1) (p := (a, oe)) G_law_field ⟨(hr.mono hk1).dp, (hr.mono hk1).un⟩ ⟨rfl, vs0, hv0, hz.2.2 vs0 hv0⟩ List.mem_cons_self (by rfl) T.m_law_field T.F_law_field.kp T.b_law_field (pa_cons (pe_var (i := 1) rfl vis1) pa_nil)) pa_nil))))).run pins s σ H D' I (h ⟨hz, vs0, hv0⟩)
    · refine ⟨f, fs, sp, rfl, ok, hf, q _ _ (fun v H' hq => ?_) (fun cls d H' he => ?_)⟩
      · refine ⟨by show 2 ≤ sizeLine; decide, fun t ht => ?_⟩
        exact hq _ t (Same.new ht) ht upd_same
      · obtain ⟨e, he, xs, dd, hl, rfl, rfl, hx, kk⟩ := he
        have eo := EO e he
        have hm : PySem.W.exmAny K (.ref e.D) [.ref cI, .ref cM] = some true := by
          obtain ⟨c1, c2, m1, m2, q⟩ := eo.exm
          rw [mI] at m1
          rw [mM] at m2
          cases m1
          cases m2
          exact q
        refine ⟨hm, fun a oe na ⟨hz, hfd⟩ => ?_⟩
        refine ⟨.ref a, rfl, rfl, e.D, dd, _, .str e.code, eo.xf, eo.code, hz.1, hz.2.1, hfd, hx, rfl, ?_⟩
        refine ⟨.ref a, rfl, e, he, xs, dd, hl, rfl, ⟨eo.xf, ⟨hz.1, hz.2.1, hfd⟩, hx⟩, fun G u s1 nu eu => ?_⟩
        refine ⟨by show 2 ≤ sizeLine; decide, fun t ht => ?_⟩
        exact kk _ u t (s1.trans (Same.new ht)) nu (Same.new ht _ _ eu) (Go.freeS s1 ht) upd_same
end
section
variable {P : Program} {w : World} {K : PySem.W.Frag} {mg : Str → Option Value} {base : Heap} {Z : Fs}
def WhyQ (Q : VK) : VK := fun _ H' => ∀ (G : Hp) (t : Addr), Same H' G → H' t = none → G t = some (.tup [.str "", .non]) → Q (.ref t) G
def sp_law_why (P : Program) (w : World) (K : PySem.W.Frag) (mg : Str → Option Value) (base : Heap) (EK : List EKind) (k : Nat) : Sp := fun vs H Q _ => ∃ (f : Addr) (fs : List (Addr × HO)) (sp : Hp → VK → XK → Prop), vs = [.ref f] ∧ Lend.AskOk P w K mg base (L2N.CX P w) k f fs sp ∧ (∀ p ∈ fs, H p.1 = some p.2) ∧
  ∀ (Q' : VK) (E' : XK), (∀ v H', WhyQ Q v H' → Q' v H') → (∀ cls d H', TryE EK Q cls d H' → E' cls d H') → sp H Q' E'
theorem ok_law_why {EK : List EKind} {cI cM : Addr} {k : Nat} (T : Txt K w mg Z) (hk1 : 1 ≤ k) (EO : ∀ e ∈ EK, KindOk K mg e) (ne0 : ∀ e ∈ EK, e.code ≠ "") (mI : mg "ImageError" = some (.ref cI)) (mM : mg "Missing" = some (.ref cM)) (G_law_field : HotP.FnHP P w K mg base C8.CX0 1 Z.a_law_field Z.d_law_field ["_law_e"] (sp_law_field K EK)) :
    FnOk P w K mg base CX0 (k + 2) Z.a_law_why Z.d_law_why ["_law_ask"] (sp_law_why P w K mg base EK k) := by
  have G_law_try := ok_law_try (P := P) (base := base) (k := k) T hk1 EO mI mM G_law_field
  refine T.F_law_why.ok sc_law_why (fun vs H Q E h => ?_) (fun cdv A outer s H vs Q E hr h => ?_)
  · obtain ⟨f, fs, sp, rfl, _⟩ := h
    rfl
  · obtain ⟨f, fs, sp, rfl, ok, hf, q⟩ := h
    refine ⟨_, (pss_cons (ps_set (i := 1) sc_law_why.nd rfl (Or.inl rfl) (pe_call G_law_try (hr.mono (by omega)) (by rfl) T.m_law_try T.F_law_try.kp T.b_law_try .nil pass0 (pa_cons (pv 0) pa_nil)))
      (pss_one (ps_ret (pe_ifExp (pt_cmpR op_ne (pe_ix (ix_tup : IxR _ (rIxT K)) (pv 1) pe_int (fun _ _ => rfl)) pe_str (nomark _)) (pv 1) (pe_tup (pa_cons pe_str (pa_cons pe_non pa_nil))))))), ?_⟩
    rw [show L2.start N_law_why [V.ref f] = [some (V.ref f), none] from rfl]
    try dsimp only [cxOf, Cx.nox]
    tm_at "go"
    refine ⟨f, fs, sp, rfl, ok, hf, fun Q' E' hQ hE => q Q' E' (fun v H' hw => hQ v H' fun G t s1 nt et => ?_) (fun cls d H' he => hE cls d H' ?_)⟩
    · tm_at "go"
      rename_i pp G2 n2' s2 e2
      exact hw _ _ (s1.trans s2) (Go.freeS s1 n2') e2
    · obtain ⟨e, he, xs, dd, hl, e1, e2, hx, kk⟩ := he
      refine ⟨e, he, xs, dd, hl, e1, e2, hx, fun G u t s1 nu eu nt et => ?_⟩
      tm_at "go"
      all_goals first
        | exact absurd ‹e.code = Str.ofString ""› (ne0 e he)
        | exact kk G u t s1 nu eu nt et
end
section
variable {P : Program} {w : World} {K : PySem.W.Frag} {mg : Str → Option Value} {base : Heap} {Z : Fs}
theorem i_why {EK : List EKind} {f : Addr} {fs : List (Addr × HO)} {sp : Hp → VK → XK → Prop} {k : Nat} {H : Hp} {Q : VK} {E : XK} (ok : Lend.AskOk P w K mg base (L2N.CX P w) k f fs sp) (hf : ∀ p ∈ fs, H p.1 = some p.2) (q : ∀ (Q' : VK) (E' : XK), (∀ v H', WhyQ Q v H' → Q' v H') → (∀ cls d H', TryE EK Q cls d H' → E' cls d H') → sp H Q' E') : sp_law_why P w K mg base EK k [.ref f] H Q E := ⟨f, fs, sp, rfl, ok, hf, q⟩
/-- one of the asked: its function stands, and at any later heap a call of it ends in what R tells -/
structure AskIn (P : Program) (w : World) (K : PySem.W.Frag) (mg : Str → Option Value) (base : Heap) (EK : List EKind) (k : Nat) (H : Hp) (x : V) (R : Hp → V → Prop) : Prop where
  ex : ∃ (f : Addr) (fs : List (Addr × HO)) (sp : Hp → VK → XK → Prop), x = .ref f ∧ Lend.AskOk P w K mg base (L2N.CX P w) k f fs sp ∧ (∀ p ∈ fs, H p.1 = some p.2) ∧
    ∀ (H1 : Hp) (Qk : VK) (Q' : VK) (E' : XK), Same H H1 → (∀ G u, Same H1 G → R G u → Qk u G) → (∀ v H', WhyQ Qk v H' → Q' v H') → (∀ cls d H', TryE EK Qk cls d H' → E' cls d H') → sp H1 Q' E'
  stay : ∀ (G G' : Hp) (u : V), (∀ a ys, G a = some (.tup ys) → G' a = some (.tup ys)) → R G u → R G' u
def sp_law_whys (P : Program) (w : World) (K : PySem.W.Frag) (mg : Str → Option Value) (base : Heap) (EK : List EKind) (k : Nat) : Sp := fun vs H Q _ => ∃ (a : Addr) (xs : List V) (R : Nat → Hp → V → Prop), vs = [.ref a] ∧ SqL K H a xs ∧ xs.length ≤ 1000 ∧ (∀ i x, xs[i]? = some x → AskIn P w K mg base EK k H x (R i)) ∧
  ∀ (G : Hp) (t : Addr) (us : List V), Same H G → H t = none → G t = some (.lst us) → us.length = xs.length → (∀ i u, us[i]? = some u → R i G u) → Q (.ref t) G
theorem ok_law_whys {EK : List EKind} {cI cM : Addr} {k : Nat} (T : Txt K w mg Z) (hk1 : 1 ≤ k) (EO : ∀ e ∈ EK, KindOk K mg e) (ne0 : ∀ e ∈ EK, e.code ≠ "") (mI : mg "ImageError" = some (.ref cI)) (mM : mg "Missing" = some (.ref cM)) (G_law_field : HotP.FnHP P w K mg base C8.CX0 1 Z.a_law_field Z.d_law_field ["_law_e"] (sp_law_field K EK)) :
    FnOk P w K mg base CX0 (k + 3) Z.a_law_whys Z.d_law_whys ["_law_asks"] (sp_law_whys P w K mg base EK k) := by
  have G_law_why := ok_law_why (P := P) (base := base) (k := k) T hk1 EO ne0 mI mM G_law_field
  refine T.F_law_whys.ok sc_law_whys (fun vs H Q E h => ?_) (fun cdv A outer s H vs Q E hr h => ?_)
  · obtain ⟨a, xs, R, rfl, _⟩ := h
    rfl
  · obtain ⟨a, xs, R, rfl, hx, hl, asks, k⟩ := h
    refine ⟨_, (pss_one (ps_ret (pe_lc (own := [("_law_ask", 1)]) (g := gName 1) (tt := tYes) rfl sc_law_whys.nd (pi_list (pv 0)) (blkOk_by (N := N_law_whys) (sc := defScope s_law_whys) (by decide +kernel)) (fun _ _ _ _ _ => pg_name (i := 1) sc_law_whys.nd rfl (Or.inl rfl)) (fun _ _ _ _ _ => pts_nil) (fun _ _ _ _ _ => (pe_call G_law_why (hr.mono (by omega)) (by rfl) T.m_law_why T.F_law_why.kp T.b_law_why .nil pass0 (pa_cons (pv 1) pa_nil)))))), ?_⟩
    rw [show L2.start N_law_whys [V.ref a] = [some (V.ref a), none] from rfl]
    try dsimp only [cxOf, Cx.nox]
    tm_at "go"
    refine Go.lc_w (walk_list (K := K) (xs := xs)) (fun L i H' => Same H H' ∧ H L = none ∧ i ≤ xs.length ∧ ∃ us : List V, us.length = i ∧ H' L = some (.lst us) ∧ ∀ j u, us[j]? = some u → R j H' u) (by tm_at "wipe") ?_ ?_ ?_ ?_
    · intro L H2 n0 s2 e2
      exact ⟨s2, n0, Nat.zero_le _, [], rfl, e2, fun j u e => by cases e⟩
    · intro L i H2 hi ⟨s2, _⟩
      exact Go.lS s2 hx
    · rintro L i v H2 H3 hi ⟨s2, nL, li, us, lu, e2, hR⟩ ⟨rfl, hv⟩
      have A1 := asks i v hv
      obtain ⟨f, fs, sp, rfl, ok, hf, q⟩ := A1.ex
      tm_at "go"
      refine i_why ok (fun p hp => s2 _ _ (hf p hp)) fun Q' E' hQ hE => q _ _ Q' E' s2 (fun G u s3 r => ?_) hQ hE
      refine Go.lcEnd (s3 _ _ e2) (Go.lt_line (by omega)) fun H6 s6 e6 => ?_
      have tu : ∀ b ys, G b = some (.tup ys) → H6 b = some (.tup ys) := fun b ys e => s6 b _ (fun z => by
        rw [z, s3 _ _ e2] at e
        cases e) e
      have tu2 : ∀ b ys, H3 b = some (.tup ys) → H6 b = some (.tup ys) := fun b ys e => tu b ys (s3 _ _ e)
      refine ⟨Go.Same.own (s2.trans s3) nL s6, nL, by omega, us ++ [u], by rw [List.length_append, lu]; rfl, e6, fun j z ej => ?_⟩
      rw [List.getElem?_append] at ej
      split at ej
      · rename_i hj
        obtain ⟨xj, hxj⟩ : ∃ xj, xs[j]? = some xj := ⟨xs[j], List.getElem?_eq_getElem (by omega)⟩
        exact (asks j xj hxj).stay H3 H6 z tu2 (hR j z ej)
      · rename_i hj
        have e0 : j = i := by
          by_cases c : j - us.length = 0
          · omega
          · rw [List.getElem?_eq_none (by simp; omega)] at ej
            cases ej
        subst e0
        rw [lu, Nat.sub_self] at ej
        cases ej
        exact A1.stay G H6 u tu r
    · rintro L H2 ⟨s2, nL, li, us, lu, e2, hR⟩
      exact k H2 L us s2 nL e2 lu hR
end

open Lend LamX NdefX
namespace Go
/-! ### a lambda is made: all but the tables of code objects stays -/
structure Grow (H H1 : Hp) : Prop where
  ext : ExtN H H1
  non : ∀ b, H1 b = none → H b = none
section
variable {K : PySem.W.Frag} {H H1 : Hp} {a p q : Addr} {o : HO} {xs : List V}
theorem Grow.trans {H2 : Hp} (x : Grow H H1) (y : Grow H1 H2) : Grow H H2 := ⟨x.ext.trans y.ext, fun b e => x.non b (y.non b e)⟩
theorem Grow.same (s : Same H H1) : Grow H H1 := ⟨ExtN.of s, fun _ e => freeS s e⟩
theorem oX (s : Grow H H1) (n : ∀ ps, o ≠ .tbl ps) (h : H p = some o) : H1 p = some o := s.ext _ _ h n
theorem lX (s : Grow H H1) (h : SqL K H a xs) : SqL K H1 a xs := by
  rcases h with (h | ⟨o, h⟩) | h
  · exact .inl (.inl (s.ext _ _ h fun ps z => nomatch z))
  · exact .inl (.inr ⟨o, s.ext _ _ h fun ps z => nomatch z⟩)
  · exact .inr h
theorem tX (s : Grow H H1) (h : SqT K H a xs) : SqT K H1 a xs := by
  rcases h with (h | ⟨o, h⟩) | h
  · exact .inl (.inl (s.ext _ _ h fun ps z => nomatch z))
  · exact .inl (.inr ⟨o, s.ext _ _ h fun ps z => nomatch z⟩)
  · exact .inr h
theorem nX (s : Grow H H1) (h : H1 q = none) : H q = none := s.non q h
theorem lst_ne {xs : List V} (ps : Array Value) : HO.lst xs ≠ .tbl ps := fun z => nomatch z
theorem tup_ne {xs : List V} (ps : Array Value) : HO.tup xs ≠ .tbl ps := fun z => nomatch z
theorem funO_ne {f : Addr} {fd : FuncData} (ps : Array Value) : FunO f fd ≠ .tbl ps := fun z => by
  unfold FunO at z
  cases z
theorem lamq {T : List (Addr × Str)} {q : Str} {params : Arguments} {body : Expr} {scope : Scope} {cl : List (Str × Addr)} {ds : List V} {Q : VK} (hT : Tabs T H)
    (k : ∀ (f c' : Addr) (dV doc pm ct : Value) (H2 : Hp), Grow H H2 → H f = none → Tabs T H2 → H2 f = some (FunO f (lamFd "<lambda>" q params body scope cl dV doc pm c' ct)) → H2 c' = some (CodeO c' q) → DefsAt H2 dV ds → Q (.ref f) H2) : LamQ T q params body scope cl ds H Q :=
  ⟨hT, fun f c' dV doc pm ct H1 H2 e1 e2 M d => k f c' dV doc pm ct H2 ⟨(ExtN.of e1).trans M.ext, fun b z => e2 b (M.non b z)⟩ (e2 f M.new) M.tabs M.fn M.code d⟩
end
end Go
theorem Bag.grow {b l : Addr} {H H' : Hp} (s : Go.Grow H H') (h : Bag H b l) : Bag H' b l := by
  obtain ⟨ns, i, r, m, n, h1, h2, h3⟩ := h
  exact ⟨ns, i, r, m, n, Go.oX s (fun _ z => nomatch z) h1, Go.oX s (fun _ z => nomatch z) h2, h3⟩

open Lend LamX NdefX SupX
theorem Dt.lit {K : PySem.W.Frag} {H : Hp} {b : Addr} {z : Str} (h : (decide (z.cps.size ≤ 100000) && z.cps.toList.all fun c => decide (c < 1114112)) = true) : Dt K H b (.str z) (.str z) := by
  rw [Bool.and_eq_true] at h
  exact .str ⟨of_decide_eq_true h.1, fun c m => of_decide_eq_true (List.all_eq_true.mp h.2 c m)⟩
mutual
theorem Dt.grow {K : PySem.W.Frag} {H H' : Hp} {b : Addr} (s : Go.Grow H H') : ∀ {v : V} {d : PyData}, Dt K H b v d → Dt K H' b v d
  | _, _, .non => .non
  | _, _, .bl k => .bl k
  | _, _, .int i => .int i
  | _, _, .str h => .str h
  | _, _, .lst h n l r => .lst (Go.lX s h) n l (DtA.grow s r)
  | _, _, .tup h n l r => .tup (Go.tX s h) n l (DtA.grow s r)
theorem DtA.grow {K : PySem.W.Frag} {H H' : Hp} {b : Addr} (s : Go.Grow H H') : ∀ {v : List V} {d : List PyData}, DtA K H b v d → DtA K H' b v d
  | _, _, .nil => .nil
  | _, _, .cons h r => .cons (Dt.grow s h) (DtA.grow s r)
end
local macro_rules | `(tactic| tm_at "dt") => `(tactic| first | assumption | exact Dt.str (by assumption) | exact Dt.lit (by decide +kernel) | (refine' Dt.grow (by assumption) ?z0; (case z0 => tm_at "dt")) | (refine' Dt.tup ?h ?n ?l ?r; (case h => tm_at "hpT"); (case n => tm_at "ne"); (case l => exact Nat.le_of_ble_eq_true rfl); (case r => tm_at "dtA")) | (refine' Dt.lst ?h ?n ?l ?r; (case h => tm_at "hpL"); (case n => tm_at "ne"); (case l => exact Nat.le_of_ble_eq_true rfl); (case r => tm_at "dtA")))
local macro_rules | `(tactic| tm_at "dtA") => `(tactic| first | exact DtA.nil | (refine' DtA.cons ?a ?b; (case a => tm_at "dt"); (case b => tm_at "dtA")))
local macro_rules | `(tactic| tm_at "tblN") => `(tactic| first | with_reducible exact Go.lst_ne | with_reducible exact Go.tup_ne | with_reducible exact Go.funO_ne | with_reducible exact LamX.codeO_ne | fail)
local macro_rules | `(tactic| tm_at "hpO") => `(tactic| first | (refine' Go.oX (by assumption) ?z0 ?z1; (case z0 => tm_at "tblN"); (case z1 => tm_at "hpO")) | fail)
local macro_rules | `(tactic| tm_at "hpL") => `(tactic| first | (refine' Go.lX (by assumption) ?z0; (case z0 => tm_at "hpL")) | fail)
local macro_rules | `(tactic| tm_at "hpT") => `(tactic| first | (refine' Go.tX (by assumption) ?z0; (case z0 => tm_at "hpT")) | fail)
local macro_rules | `(tactic| tm_at "bag") => `(tactic| first | (refine' Bag.grow (by assumption) ?z0; (case z0 => tm_at "bag")) | fail)
local macro_rules | `(tactic| tm_at "non") => `(tactic| first | (refine' Go.nX (by assumption) ?z0; (case z0 => tm_at "non")) | fail)
/-! ### what an error may tell of: a value of one depth -/
theorem Shows.but {K : PySem.W.Frag} {H H' : Hp} {b : Addr} {x : V} {d : PyData} {c : Nat} (s : Go.But b H H') (t : Dt K H b x d) (h : Shows K H x c) : Shows K H' x c := by
  rcases h with h | ⟨a, xs, ts, rfl, h, f, l⟩
  · exact .inl h
  · have n : a ≠ b := by cases t <;> assumption
    rcases h with h | h
    · exact .inr ⟨a, xs, ts, rfl, .inl (Go.tB s n h), f, l⟩
    · exact .inr ⟨a, xs, ts, rfl, .inr (Go.lB s n h), f, l⟩
theorem Shows.grow {K : PySem.W.Frag} {H H' : Hp} {x : V} {c : Nat} (s : Go.Grow H H') (h : Shows K H x c) : Shows K H' x c := by
  rcases h with h | ⟨a, xs, ts, rfl, h, f, l⟩
  · exact .inl h
  · rcases h with h | h
    · exact .inr ⟨a, xs, ts, rfl, .inl (Go.tX s h), f, l⟩
    · exact .inr ⟨a, xs, ts, rfl, .inr (Go.lX s h), f, l⟩
structure Odd (K : PySem.W.Frag) (H : Hp) (b : Addr) (v : V) (d : PyData) : Prop where
  dt : Dt K H b v d
  deep : dep d ≤ 1
  shows : ∃ c, Shows K H v c ∧ c ≤ 5000
theorem Odd.but {K : PySem.W.Frag} {H H' : Hp} {b : Addr} {v : V} {d : PyData} (s : Go.But b H H') (h : Odd K H b v d) : Odd K H' b v d := ⟨h.dt.but s, h.deep, let ⟨c, h1, h2⟩ := h.shows; ⟨c, Shows.but s h.dt h1, h2⟩⟩
theorem Odd.same {K : PySem.W.Frag} {H H' : Hp} {b : Addr} {v : V} {d : PyData} (s : Same H H') (h : Odd K H b v d) : Odd K H' b v d := h.but (Go.sb s)
theorem Odd.grow {K : PySem.W.Frag} {H H' : Hp} {b : Addr} {v : V} {d : PyData} (s : Go.Grow H H') (h : Odd K H b v d) : Odd K H' b v d := ⟨h.dt.grow s, h.deep, let ⟨c, h1, h2⟩ := h.shows; ⟨c, Shows.grow s h1, h2⟩⟩
local macro_rules | `(tactic| tm_at "odd") => `(tactic| first | assumption | (refine' Odd.same (by assumption) ?z0; (case z0 => tm_at "odd")) | (refine' Odd.but (by assumption) ?z0; (case z0 => tm_at "odd")) | (refine' Odd.grow (by assumption) ?z0; (case z0 => tm_at "odd")))
local macro_rules | `(tactic| tm_at "flat") => `(tactic| first | exact Flat.non | exact Flat.bl _ | (refine Flat.int _ ?_; decide +kernel) | (refine Flat.str _ ?_; decide +kernel))
local macro_rules | `(tactic| tm_at "flatA") => `(tactic| first | exact FlatA.nil | (refine' FlatA.cons ?a ?b; (case a => tm_at "flat"); (case b => tm_at "flatA")))
local macro_rules | `(tactic| tm_at "mkOdd") => `(tactic| first
  | (refine' ⟨_, ⟨?d, ?e, 5000, .inl ⟨_, ?f, ?l⟩, Nat.le_refl _⟩⟩; (case d => tm_at "dt"); (case e => decide +kernel); (case f => tm_at "flat"); (case l => decide +kernel))
  | (refine' ⟨_, ⟨?d, ?e, 5000, .inr ⟨_, _, _, rfl, .inl ?s, ?f, ?l⟩, Nat.le_refl _⟩⟩; (case d => tm_at "dt"); (case s => tm_at "hpT"); (case f => tm_at "flatA"); (case e => decide +kernel); (case l => decide +kernel))
  | (refine' ⟨_, ⟨?d, ?e, 5000, .inr ⟨_, _, _, rfl, .inr ?s, ?f, ?l⟩, Nat.le_refl _⟩⟩; (case d => tm_at "dt"); (case s => tm_at "hpL"); (case f => tm_at "flatA"); (case e => decide +kernel); (case l => decide +kernel)))
/-! ### what an asked function comes to -/
/-- nothing is wrong, or the code and the fields of what is raised -/
abbrev Wy := Option (Str × List V)
def WhyAt (o : Wy) (H : Hp) (t : Addr) : Prop := match o with
  | none => H t = some (.tup [.str "", .non])
  | some (c, xs) => ∃ u, H t = some (.tup [.str c, .ref u]) ∧ H u = some (.tup xs)
def RW (o : Wy) : Hp → V → Prop := fun G u => ∃ t, u = .ref t ∧ WhyAt o G t
theorem WhyAt.tups {o : Wy} {H H' : Hp} {t : Addr} (s : ∀ a ys, H a = some (.tup ys) → H' a = some (.tup ys)) (h : WhyAt o H t) : WhyAt o H' t := by
  match o, h with
  | none, h => exact s _ _ h
  | some (c, xs), ⟨u, h1, h2⟩ => exact ⟨u, s _ _ h1, s _ _ h2⟩
theorem WhyAt.same {o : Wy} {H H' : Hp} {t : Addr} (s : Same H H') (h : WhyAt o H t) : WhyAt o H' t := h.tups fun a ys e => s _ _ e
/-- its data -/
inductive WhyD (K : PySem.W.Frag) (H : Hp) (b : Addr) : Wy → PyData → Prop
  | ok : WhyD K H b none (.tuple [.str "", .none])
  | er {c : Str} {xs : List V} {ds : List PyData} (hc : StrK c) (hl : xs.length ≤ 100000) (h : DtA K H b xs ds) : WhyD K H b (some (c, xs)) (.tuple [.str c, .tuple ds])
theorem WhyAt.dt {K : PySem.W.Frag} {o : Wy} {H : Hp} {b l t : Addr} {d : PyData} (hB : Bag H b l) (h : WhyAt o H t) (hd : WhyD K H b o d) : Dt K H b (.ref t) d := by
  have ne : ∀ {a : Addr} {ys : List V}, H a = some (.tup ys) → a ≠ b := fun {a ys} e z => by
    obtain ⟨ns, i, r, m, n, h1, _⟩ := hB
    rw [z, h1] at e
    cases e
  cases hd with
  | ok => exact .tup (SqT.of h) (ne h) (Nat.le_of_ble_eq_true rfl) (.cons (.lit (by decide +kernel)) (.cons .non .nil))
  | er hc hl hx =>
    obtain ⟨u, h1, h2⟩ := h
    exact .tup (SqT.of h1) (ne h1) (Nat.le_of_ble_eq_true rfl) (.cons (.str hc) (.cons (.tup (SqT.of h2) (ne h2) hl hx) .nil))
/-- how a call ends: with a value, or an error of a kind with its fields -/
def EndsSo (o : Option (EKind × List V)) (G : Hp) (Q : VK) (E : XK) : Prop := match o with
  | none => ∀ v H', Same G H' → Q v H'
  | some (e, xs) => ∀ d H', ErrAt G H' d e xs → E (.ref e.D) (some d) H'
def wy (o : Option (EKind × List V)) : Wy := o.map fun p => (p.1.code, p.2)
section
variable {P : Program} {w : World} {K : PySem.W.Frag} {mg : Str → Option Value} {base : Heap} {Z : Fs}
theorem ask_gen {EK : List EKind} {f : Addr} {k : Nat} {fs : List (Addr × HO)} {cs : List (Addr × Obj)} {σ0 : L2.St} {tb : XK → TE} {H : Hp} (o : Option (EKind × List V)) (ok : Lend.AskOk P w K mg base (L2N.CX P w) k f fs (LendN.askSp cs σ0 tb)) (hf : ∀ p ∈ fs, H p.1 = some p.2) (hi : Lend.Ins H cs)
    (hk : ∀ e xs, o = some (e, xs) → e ∈ EK ∧ xs.length = e.attrs.length) (hb : ∀ (G : Hp) (Q : VK) (E : XK), Same (Lend.unl H cs) G → EndsSo o G Q E → tb E σ0 G Q) :
    AskIn P w K mg base EK k H (.ref f) (RW (wy o)) := by
  refine ⟨⟨f, fs, _, rfl, ok, hf, fun H1 Qk Q' E' s1 kR hQ hE => ?_⟩, fun G G' u s ⟨t, e, h⟩ => ⟨t, e, h.tups s⟩⟩
  have i1 := LendN.Ins.same s1 hi
  refine hb _ _ _ (LendN.unl_same s1) ?_
  match o, hk, kR with
  | none, _, kR => exact fun v H' sH off => hQ _ _ fun G t sG nt et => kR G (.ref t) ((LendN.lend_same i1 sH).trans sG) ⟨t, rfl, et⟩
  | some (e, xs), hk, kR =>
    obtain ⟨he, hl⟩ := hk e xs rfl
    exact fun d H' eA off => hE _ _ _ ⟨e, he, xs, d, hl, rfl, rfl, LendN.lend_at off eA.at_, fun G u t s nu eu nt et => kR G (.ref t) ((LendN.lend_same i1 eA.same).trans s) ⟨t, rfl, u, et, eu⟩⟩
theorem ask_g0 {EK : List EKind} {f c' : Addr} {k : Nat} {qual : Str} {params : Arguments} {body : Expr} {scope : Scope} {dV doc pm ct : Value} {cs : List (Addr × Obj)} {N fr : List Str} {ws : List V} {X : Cx} {σ : L2.St} {ys : List (Str × Nat)} {H : Hp} {tb : XK → TE} (o : Option (EKind × List V))
    (S : NScope N [] fr scope) (C : LendN.CellW X σ ys cs) (off : LendN.Offs H cs) (hc : Paired (LendN.Cap X cs) fr ws) (hF : H f = some (FunO f (lamFd "<lambda>" qual params body scope (cloFrom X.env.cells scope.names []) dV doc pm c' ct))) (hC : H c' = some (CodeO c' qual)) (hD : DefsAt H dV []) (hb0 : bindArgs (lamFd "<lambda>" qual params body scope (cloFrom X.env.cells scope.names []) .none doc pm c' ct) ⟨[], []⟩ = pure [])
    (hbody : ∀ (A : Around) (outer : List Env) (s : Shared) (H : Hp) (E : XK), Room k (A.deeper (envF ⟨"<lambda>", qual, params, [], scope, cloFrom X.env.cells scope.names [], c'⟩ f s.heap.objs.size)) →
      PE (ncx (L2N.CX P w) P w K mg base N ⟨"<lambda>", qual, params, [], scope, cloFrom X.env.cells scope.names [], c'⟩ f A outer s H E) body (tb E))
    (hk : ∀ e xs, o = some (e, xs) → e ∈ EK ∧ xs.length = e.attrs.length) (hb : ∀ (G : Hp) (Q : VK) (E : XK), Same H G → EndsSo o G Q E → tb E (startF N [] (ws.map some)) G Q) :
    AskIn P w K mg base EK (k + 1) (Lend.lend H cs) (.ref f) (RW (wy o)) := by
  obtain ⟨fs, ok, hf⟩ := LendN.ask0 S C off hc hF hC hD hb0 hbody
  have su := LendN.same_unl_lend (cs := cs) off
  exact ask_gen o ok hf Lend.lend_ins hk fun G Q E s => hb G Q E (su.trans s)
theorem ask_g1 {EK : List EKind} {f c' : Addr} {k : Nat} {qual : Str} {params : Arguments} {body : Expr} {scope : Scope} {dV doc pm ct : Value} {cs : List (Addr × Obj)} {N fr : List Str} {ws : List V} {X : Cx} {σ : L2.St} {ys : List (Str × Nat)} {H : Hp} {tb : XK → TE} {z : Str} {d : V} (o : Option (EKind × List V))
    (S : NScope N [z] fr scope) (C : LendN.CellW X σ ys cs) (off : LendN.Offs H cs) (hc : Paired (LendN.Cap X cs) fr ws) (hF : H f = some (FunO f (lamFd "<lambda>" qual params body scope (cloFrom X.env.cells scope.names []) dV doc pm c' ct))) (hC : H c' = some (CodeO c' qual)) (hD : DefsAt H dV [d])
    (hb0 : ∃ k : Option (Array Value) → Sem (List (Str × Value)), bindArgs (lamFd "<lambda>" qual params body scope (cloFrom X.env.cells scope.names []) dV doc pm c' ct) ⟨[], []⟩ = seqItems? (lamFd "<lambda>" qual params body scope (cloFrom X.env.cells scope.names []) dV doc pm c' ct).defaults >>= k ∧ ∀ u, k (some #[u]) = pure [(z, u)])
    (hbody : ∀ (A : Around) (outer : List Env) (s : Shared) (H : Hp) (E : XK), Room k (A.deeper (envF ⟨"<lambda>", qual, params, [], scope, cloFrom X.env.cells scope.names [], c'⟩ f s.heap.objs.size)) →
      PE (ncx (L2N.CX P w) P w K mg base N ⟨"<lambda>", qual, params, [], scope, cloFrom X.env.cells scope.names [], c'⟩ f A outer s H E) body (tb E))
    (hk : ∀ e xs, o = some (e, xs) → e ∈ EK ∧ xs.length = e.attrs.length) (hb : ∀ (G : Hp) (Q : VK) (E : XK), Same H G → EndsSo o G Q E → tb E (startF N [d] (ws.map some)) G Q) :
    AskIn P w K mg base EK (k + 1) (Lend.lend H cs) (.ref f) (RW (wy o)) := by
  obtain ⟨fs, ok, hf⟩ := LendN.ask1 S C off hc hF hC hD hb0 hbody
  have su := LendN.same_unl_lend (cs := cs) off
  exact ask_gen o ok hf Lend.lend_ins hk fun G Q E s => hb G Q E (su.trans s)
def CW (X : Cx) (ys : List (Str × Nat)) (sp : Sp) (dvs : List V) (σ : L2.St) (vs : List V) (H1 : Hp) (Q : VK) : Prop := (∀ y ∈ ys, LendN.CapOk X σ y) ∧ ∀ cs, LendN.CellW X σ ys cs → LendN.Offs H1 cs → sp (vs ++ dvs) (Lend.lend H1 cs) (fun v H2 => Lend.Ins H2 cs ∧ Q v (Lend.unl H2 cs)) C8.E0
theorem callW {X : Cx} {ys : List (Str × Nat)} {sp : Sp} {dvs : List V} {t : TA} {σ : L2.St} {H : Hp} {Q : VK} (q : t σ H fun vs H1 => CW X ys sp dvs σ vs H1 Q) : LendN.tCallW X ys sp dvs t σ H Q := q
theorem whysW {X : Cx} {ys : List (Str × Nat)} {σ : L2.St} {H : Hp} {Q : VK} {EK : List EKind} {a : Addr} {k : Nat} {xs : List V} (oz : List Wy) (hx : SqL K H a xs) (hl : xs.length = oz.length) (hl2 : xs.length ≤ 1000) (caps : ∀ y ∈ ys, LendN.CapOk X σ y)
    (asks : ∀ cs, LendN.CellW X σ ys cs → LendN.Offs H cs → ∀ i x, xs[i]? = some x → AskIn P w K mg base EK k (Lend.lend H cs) x (RW (oz.getD i none)))
    (q : ∀ (G : Hp) (t : Addr) (ts : List Addr), Same H G → H t = none → G t = some (.lst (ts.map V.ref)) → Paired (fun t o => WhyAt o G t) ts oz → Q (.ref t) G) : CW X ys (sp_law_whys P w K mg base EK k) [] σ [.ref a] H Q := by
  refine ⟨caps, fun cs C off => ⟨a, xs, fun i => RW (oz.getD i none), rfl, Go.lS (LendN.lend_sub off) hx, hl2, asks cs C off, fun G t us sG nt et hlen hR => ⟨LendN.Ins.same sG Lend.lend_ins, ?_⟩⟩⟩
  have iG : Lend.Ins G cs := LendN.Ins.same sG Lend.lend_ins
  have sU : Same H (Lend.unl G cs) := LendN.unl_of off sG
  have key : ∀ (us : List V) (oz : List Wy), us.length = oz.length → (∀ i u, us[i]? = some u → RW (oz.getD i none) G u) → ∃ ts : List Addr, us = ts.map V.ref ∧ Paired (fun t o => WhyAt o (Lend.unl G cs) t) ts oz := by
    intro us
    induction us with
    | nil =>
      intro oz hl _
      cases oz with
      | nil => exact ⟨[], rfl, .nil⟩
      | cons o r => cases hl
    | cons u us ih =>
      intro oz hl hR
      cases oz with
      | nil => cases hl
      | cons o r =>
        obtain ⟨ts, rfl, hp⟩ := ih r (by simpa using hl) (fun i v e => by simpa using hR (i + 1) v (by simpa using e))
        obtain ⟨t, rfl, ht⟩ := hR 0 u rfl
        exact ⟨t :: ts, rfl, .cons (ht.tups fun a ys e => LendN.unl_at iG (fun o => Lend.celO_tup) e) hp⟩
  obtain ⟨ts, rfl, hp⟩ := key us oz (by rw [hlen, hl]) hR
  exact q _ t ts sU (LendN.lend_non nt) (LendN.unl_at iG (fun o => LendN.celO_lst) et) hp
end
theorem tabS {T : List (Addr × Str)} {H H' : Hp} (s : Same H H') (t : Tabs T H) : Tabs T H' := t.ext s
theorem tabB {T : List (Addr × Str)} {H H' : Hp} {b l : Addr} (hB : Bag H b l) (s : Go.But b H H') (t : Tabs T H) : Tabs T H' := fun p hp => by
  obtain ⟨ns, i, r, m, n, h1, _⟩ := hB
  obtain ⟨ps, e1, e2, e3⟩ := t p hp
  have n1 : p.1 ≠ b := fun z => by
    rw [z, h1] at e1
    cases e1
  refine ⟨ps, s _ _ n1 e1, e2, fun pos cv hc => ?_⟩
  obtain ⟨c, q1, q2⟩ := e3 pos cv hc
  refine ⟨c, q1, s _ _ (fun z => ?_) q2⟩
  rw [z, h1] at q2
  have z' := Option.some.inj q2
  unfold CodeO at z'
  cases z'
theorem Dt.intE {K : PySem.W.Frag} {H : Hp} {b : Addr} {i j : Int} (e : i = j) : Dt K H b (.int i) (.int j) := by
  subst e
  exact .int _
theorem defsS {H H' : Hp} {dV : Value} {ds : List V} (s : Same H H') (h : DefsAt H dV ds) : DefsAt H' dV ds := by
  cases ds with
  | nil => exact h
  | cons d r =>
    obtain ⟨t, e, ht⟩ := h
    exact ⟨t, e, s _ _ ht⟩
theorem defsX {H H' : Hp} {dV : Value} {ds : List V} (s : Go.Grow H H') (h : DefsAt H dV ds) : DefsAt H' dV ds := by
  cases ds with
  | nil => exact h
  | cons d r =>
    obtain ⟨t, e, ht⟩ := h
    exact ⟨t, e, Go.oX s (fun _ z => nomatch z) ht⟩
local macro_rules | `(tactic| tm_at "defs") => `(tactic| first | assumption | (refine' defsS (by assumption) ?z0; (case z0 => tm_at "defs")) | (refine' defsX (by assumption) ?z0; (case z0 => tm_at "defs")) | fail)
local macro_rules | `(tactic| tm_at "shw") => `(tactic| first | (intro z; exact absurd z (by decide +kernel)) | (intro _; refine' ⟨5000, .inl ⟨_, ?f, ?l⟩, Nat.le_refl _⟩; (case f => tm_at "flat"); (case l => decide +kernel)))
abbrev QL (q : Str) : Str := q ++ ".<locals>." ++ "<lambda>"
theorem AskIn.to {P : Program} {w : World} {K : PySem.W.Frag} {mg : Str → Option Value} {base : Heap} {EK : List EKind} {k : Nat} {H : Hp} {x : V} {o o' : Wy} (h : AskIn P w K mg base EK k H x (RW o)) (e : o = o') : AskIn P w K mg base EK k H x (RW o') := e ▸ h

open Lend LamX NdefX SupX
section
variable {P : Program} {w : World} {K : PySem.W.Frag} {mg : Str → Option Value} {base : Heap} {Z : Fs}
def sp_law_odd (K : PySem.W.Frag) : Sp := fun vs H Q _ => ∃ (b l a : Addr) (ms : List V), vs = [.ref b, .ref a] ∧ Bag H b l ∧ H a = some (.lst ms) ∧ a ≠ b ∧ ms.length ≤ 100 ∧ (∀ v ∈ ms, ∃ d, Odd K H b v d) ∧ ∀ (H' : Hp) (v : V) (d : PyData), Stp b H H' → Bag H' b l → Odd K H' b v d → (∀ a, v = .ref a → H a = none ∨ V.ref a ∈ ms) → Q v H'
theorem ok_law_odd (T : Txt K w mg Z) : FnOk P w K mg base CX0 3 Z.a_law_odd Z.d_law_odd ["_law_bag_here", "_law_more"] (sp_law_odd K) := by
  have G_law_of := ok_law_of (P := P) (base := base) T
  refine T.F_law_odd.ok sc_law_odd (fun vs H Q E h => ?_) (fun cdv A outer s H vs Q E hr h => ?_)
  · obtain ⟨b, l, a, ms, rfl, _⟩ := h
    rfl
  · obtain ⟨b, l, a, ms, rfl, hB, ha, nab, hl, hm, k⟩ := h
    refine ⟨_, (pss_one (ps_ret (pe_call G_law_of (hr.mono (by omega)) (by rfl) T.m_law_of T.F_law_of.kp T.b_law_of .nil pass0 (pa_cons (pv 0) (pa_cons (pe_op op_cat (pe_lst (pa_cons pe_non (pa_cons pe_bl (pa_cons pe_bl (pa_cons pe_str (pa_cons pe_str (pa_cons (pe_un un_neg pe_int) (pa_cons pe_int (pa_cons (pe_tup pa_nil) (pa_cons (pe_lst pa_nil) (pa_cons (pe_tup (pa_cons pe_int pa_nil)) (pa_cons (pe_lst (pa_cons pe_str pa_nil)) (pa_cons pe_str (pa_cons (pe_tup (pa_cons pe_str (pa_cons pe_str pa_nil))) (pa_cons (pe_lst (pa_cons pe_non pa_nil)) pa_nil))))))))))))))) (pv 1)) pa_nil))))), ?_⟩
    rw [show L2.start N_law_odd [V.ref b, V.ref a] = [some (V.ref b), some (V.ref a)] from rfl]
    try dsimp only [cxOf, Cx.nox]
    tm_at "go"
    refine Go.cat (by tm_at "hpO") (by tm_at "hpO") (Go.le_line (by simp only [List.length_cons, List.length_nil]; omega)) rfl ?_
    tm_at "go"
    refine i_of (b := b) (l := l) (by tm_at "bag") (SqL.of (by assumption)) (by assumption) (by simp) (by simp; omega) fun H' v sB B hv => ?_
    obtain ⟨⟨d, hd⟩, hR⟩ : (∃ d, Odd K H' b v d) ∧ ∀ a, v = .ref a → H a = none ∨ V.ref a ∈ ms := by
      rcases List.mem_append.mp hv with hv | hv
      · revert hv
        refine fun hv => (show ∀ y ∈ _, (∃ d, Odd K H' b y d) ∧ ∀ a, y = .ref a → H a = none ∨ V.ref a ∈ ms from ?_) _ hv
        tm_at "all"
        all_goals (refine ⟨by tm_at "mkOdd", ?_⟩; intro a e; cases e; all_goals exact .inl (by tm_at "non"))
      · obtain ⟨d, o⟩ := hm v hv
        exact ⟨⟨d, by tm_at "odd"⟩, fun a e => .inr (e ▸ hv)⟩
    exact k _ _ _ (by tm_at "but") B hd hR
end
theorem i_odd {K : PySem.W.Frag} {H : Hp} {Q : VK} {E : XK} {b l a : Addr} {ms : List V} (hB : Bag H b l) (ha : H a = some (.lst ms)) (n : a ≠ b) (hl : ms.length ≤ 100) (hm : ∀ v ∈ ms, ∃ d, Odd K H b v d) (q : ∀ (H' : Hp) (v : V) (d : PyData), Stp b H H' → Bag H' b l → Odd K H' b v d → (∀ a, v = .ref a → H a = none ∨ V.ref a ∈ ms) → Q v H') : sp_law_odd K [.ref b, .ref a] H Q E := ⟨b, l, a, ms, rfl, hB, ha, n, hl, hm, q⟩
theorem i_sameB {K : PySem.W.Frag} {n : Nat} {H : Hp} {Q : VK} {E : XK} {x y : V} {b l : Addr} {d : PyData} (_ : Bag H b l) (h1 : Dt K H b x d) (h2 : Dt K H b y d) (h3 : dep d ≤ n) (q : ∀ H' : Hp, Same H H' → Q (.bl true) H') : sp_law_same K n [x, y] H Q E := ⟨x, y, b, d, rfl, h1, h2, h3, q⟩
theorem i_bag {K : PySem.W.Frag} {H : Hp} {Q : VK} {E : XK} {a : Addr} {ns : List Int} (h : SqL K H a (ns.map V.int)) (hl : ns.length ≤ 63) (q : ∀ (H' : Hp) (b l : Addr), Same H H' → H b = none → H l = none → Bag H' b l → Q (.ref b) H') : sp_law_bag K [.ref a] H Q E := ⟨a, ns, rfl, h, hl, q⟩
local macro_rules | `(tactic| tm_at "allOdd") => `(tactic| (tm_at "all"; all_goals tm_at "mkOdd"))
local macro_rules | `(tactic| tm_at "tabs") => `(tactic| first | assumption | (refine' tabS (by assumption) ?z0; (case z0 => tm_at "tabs")) | (refine' tabB ?z1 (by assumption) ?z0; (case z0 => tm_at "tabs"); (case z1 => tm_at "bag")) | fail)
local macro_rules | `(tactic| tm_at "sp") => `(tactic| first
  | with_reducible refine LendN.min2 ?_
  | with_reducible refine callW ?_
  | ((with_reducible refine' Go.lamq ?h ?_); (case h => tm_at "tabs"); intro _ _ _ _ _ _ _ _ _ _ _ _ _)
  | ((with_reducible refine' i_of ?b ?x ?n ?y ?z ?_); (case b => tm_at "bag"); (case x => tm_at "hpL"); (case n => tm_at "ne"); (case y => exact Nat.le_of_ble_eq_true rfl); (case z => exact Nat.le_of_ble_eq_true rfl); intro _ _ _ _ _)
  | ((with_reducible refine' i_bag ?a ?b ?_); (case a => tm_at "hpL"); (case b => assumption); intro _ _ _ _ _ _ _)
  | ((with_reducible refine' i_odd ?b ?a ?n ?l ?m ?_); (case b => tm_at "bag"); (case a => tm_at "hpO"); (case n => tm_at "ne"); (case l => exact Nat.le_of_ble_eq_true rfl); (case m => tm_at "allOdd"); intro _ _ _ _ _ _ _)
  | ((with_reducible refine' i_sameB ?b ?h1 ?h2 ?h3 ?_); (case b => tm_at "bag"); (case h1 => tm_at "dt"); (case h2 => tm_at "dt"); (case h3 => (first | decide +kernel | (simp only [dep, depA]; omega))); intro _ _))

open Lend LamX NdefX SupX
theorem ns_E_InvalidName : NScope ["self", "value", "__class__"] ["self", "value"] ["__class__"] (defScope s_E_InvalidName) := nscope_by (by decide +kernel)
theorem ok_E_InvalidName {P : Program} {w : World} {K : PySem.W.Frag} {mg : Str → Option Value} {base : Heap} {D f : Addr} {fd : FuncData} (PS : ProgS P FL) (EC_ : EC K mg "InvalidName" "InvalidName.__init__" s_E_InvalidName ⟨D, "InvalidName", ["value"]⟩ f fd) :
    FnOk P w K mg base C8.CX0 1 f fd ["self", "value"] (sp_err1 K D "value" "InvalidName") := by
  have V := EC_.V
  have n1 : PySem.W.findIn K (.ref D) "value" = some none := EC_.ok.attr _ (.head _)
  have n2 : PySem.W.findIn K (.ref D) "code" = some none := EC_.ok.code
  obtain ⟨oc, od, osl, dV, kV, doc, pm, an, cda, ct, cc, bmB, lk, rfl, SF, FB⟩ := V.sup
  refine fn_super (N := ["self", "value", "__class__"]) (k := 0) lk PS SF FB PySem.W.kxs_ValueError ns_E_InvalidName (by decide +kernel) rfl (fun _ => rfl) (fun _ => rfl) (fun _ => rfl) (fun vs H Q E h => ?_) (fun A outer s H vs Q E hr h => ?_)
  · obtain ⟨a, x, c, rfl, _⟩ := h
    rfl
  · obtain ⟨a, x, c, rfl, ha, hs, hc, k⟩ := h
    have v0 : ∀ i z, i < 2 → (ncx C8.CX0 P w K mg base ["self", "value", "__class__"] (supNF "__init__" "InvalidName.__init__" (defArgs s_E_InvalidName) (defBody s_E_InvalidName) (defScope s_E_InvalidName) cc cda) f A outer s H E).N[i]? = some z → Vis (defScope s_E_InvalidName) z := fun i z hi e => by
      match i, hi with
      | 0, _ => cases e; exact .inl (by decide +kernel)
      | 1, _ => cases e; exact .inl (by decide +kernel)
    refine ⟨a, _, _, rfl, ha, pa_cons (pe_joined (.cons (pe_fmtX hr (pe_var (i := 1) rfl (v0 1 _ (by decide) rfl))) (.cons pe_str .nil))) pa_nil, pss_cons (ps_ost (pe_var (i := 0) rfl (v0 0 _ (by decide) rfl)) (pe_var (i := 1) rfl (v0 1 _ (by decide) rfl))) (pss_one (ps_ost (pe_var (i := 0) rfl (v0 0 _ (by decide) rfl)) pe_str)), ?_⟩
    have z1 : (" is not a name" : Str).length ≤ 100 := by decide +kernel
    have big : (6000 : Nat) ≤ sizeLine := by decide
    refine ⟨x, rfl, c, hs, by omega, fun m hm => ⟨m, rfl, ?_, ?_⟩⟩
    · rw [strLen_append]
      show 0 + m.length ≤ sizeLine
      omega
    · have l2 : (Str.empty ++ m ++ (" is not a name" : Str)).length ≤ sizeLine := by
        rw [strLen_append, strLen_append]
        show 0 + m.length + _ ≤ sizeLine
        omega
      refine ⟨_, rfl, l2, (by show 1 ≤ 1000; decide), ha, x, rfl, .ref a, rfl, a, D, rfl, V.oex, n1, .inl ⟨ha, fun dx hd hn => ?_⟩⟩
      have e2 : upd (upd H dx (exd dx [("value", x)])) a (exo a D (some dx)) dx = some (exd dx [("value", x)]) := by
        rw [upd_ne hn, upd_same]
      exact ⟨.ref a, rfl, a, D, rfl, V.oex, n2, .inr ⟨dx, [("value", x)], upd_same, e2, (by show 1 ≤ 900; decide), k dx hd hn⟩⟩
theorem ns_E_InvalidNumber : NScope ["self", "value", "__class__"] ["self", "value"] ["__class__"] (defScope s_E_InvalidNumber) := nscope_by (by decide +kernel)
theorem ok_E_InvalidNumber {P : Program} {w : World} {K : PySem.W.Frag} {mg : Str → Option Value} {base : Heap} {D f : Addr} {fd : FuncData} (PS : ProgS P FL) (EC_ : EC K mg "InvalidNumber" "InvalidNumber.__init__" s_E_InvalidNumber ⟨D, "InvalidNumber", ["value"]⟩ f fd) :
    FnOk P w K mg base C8.CX0 1 f fd ["self", "value"] (sp_err1 K D "value" "InvalidNumber") := by
  have V := EC_.V
  have n1 : PySem.W.findIn K (.ref D) "value" = some none := EC_.ok.attr _ (.head _)
  have n2 : PySem.W.findIn K (.ref D) "code" = some none := EC_.ok.code
  obtain ⟨oc, od, osl, dV, kV, doc, pm, an, cda, ct, cc, bmB, lk, rfl, SF, FB⟩ := V.sup
  refine fn_super (N := ["self", "value", "__class__"]) (k := 0) lk PS SF FB PySem.W.kxs_ValueError ns_E_InvalidNumber (by decide +kernel) rfl (fun _ => rfl) (fun _ => rfl) (fun _ => rfl) (fun vs H Q E h => ?_) (fun A outer s H vs Q E hr h => ?_)
  · obtain ⟨a, x, c, rfl, _⟩ := h
    rfl
  · obtain ⟨a, x, c, rfl, ha, hs, hc, k⟩ := h
    have v0 : ∀ i z, i < 2 → (ncx C8.CX0 P w K mg base ["self", "value", "__class__"] (supNF "__init__" "InvalidNumber.__init__" (defArgs s_E_InvalidNumber) (defBody s_E_InvalidNumber) (defScope s_E_InvalidNumber) cc cda) f A outer s H E).N[i]? = some z → Vis (defScope s_E_InvalidNumber) z := fun i z hi e => by
      match i, hi with
      | 0, _ => cases e; exact .inl (by decide +kernel)
      | 1, _ => cases e; exact .inl (by decide +kernel)
    refine ⟨a, _, _, rfl, ha, pa_cons (pe_joined (.cons (pe_fmtX hr (pe_var (i := 1) rfl (v0 1 _ (by decide) rfl))) (.cons pe_str .nil))) pa_nil, pss_cons (ps_ost (pe_var (i := 0) rfl (v0 0 _ (by decide) rfl)) (pe_var (i := 1) rfl (v0 1 _ (by decide) rfl))) (pss_one (ps_ost (pe_var (i := 0) rfl (v0 0 _ (by decide) rfl)) pe_str)), ?_⟩
    have z1 : (" is not a number that may stand here" : Str).length ≤ 100 := by decide +kernel
    have big : (6000 : Nat) ≤ sizeLine := by decide
    refine ⟨x, rfl, c, hs, by omega, fun m hm => ⟨m, rfl, ?_, ?_⟩⟩
    · rw [strLen_append]
      show 0 + m.length ≤ sizeLine
      omega
    · have l2 : (Str.empty ++ m ++ (" is not a number that may stand here" : Str)).length ≤ sizeLine := by
        rw [strLen_append, strLen_append]
        show 0 + m.length + _ ≤ sizeLine
        omega
      refine ⟨_, rfl, l2, (by show 1 ≤ 1000; decide), ha, x, rfl, .ref a, rfl, a, D, rfl, V.oex, n1, .inl ⟨ha, fun dx hd hn => ?_⟩⟩
      have e2 : upd (upd H dx (exd dx [("value", x)])) a (exo a D (some dx)) dx = some (exd dx [("value", x)]) := by
        rw [upd_ne hn, upd_same]
      exact ⟨.ref a, rfl, a, D, rfl, V.oex, n2, .inr ⟨dx, [("value", x)], upd_same, e2, (by show 1 ≤ 900; decide), k dx hd hn⟩⟩
section
variable {P : Program} {w : World} {K : PySem.W.Frag} {mg : Str → Option Value} {base : Heap} {Z : Fs}
def codesL : List Str := ["fault", "halt", "high", "low", "add", "take", "load", "store", "jump", "ifzero", "call", "near", "jumpby", "callby", "back", "out"]
def sp_is_word (K : PySem.W.Frag) : Sp := fun vs H Q _ => ∃ (v : V) (b : Addr) (d : PyData), vs = [v] ∧ Dt K H b v d ∧ ∀ H' : Hp, Same H H' → Q (.bl (numD 0 65535 d)) H'
theorem i_is_word {H : Hp} {Q : VK} {E : XK} {v : V} {b : Addr} {d : PyData} (h : Dt K H b v d) (q : ∀ H' : Hp, Same H H' → Q (.bl (numD 0 65535 d)) H') : sp_is_word K [v] H Q E := ⟨v, b, d, rfl, h, q⟩
theorem ok_is_word (T : Txt K w mg Z) : FnOk P w K mg base CX0 2 Z.a_is_word Z.d_is_word ["value"] (sp_is_word K) := by
  have G_is_number := ok_is_number (P := P) (base := base) T
  refine T.F_is_word.ok sc_is_word (fun vs H Q E h => ?_) (fun cdv A outer s H vs Q E hr h => ?_)
  · obtain ⟨v, b, d, rfl, _⟩ := h
    rfl
  · obtain ⟨v, b, d, rfl, h, k⟩ := h
    refine ⟨_, (pss_one (ps_ret (pe_call G_is_number (hr.mono (by omega)) (by rfl) T.m_is_number T.F_is_number.kp T.b_is_number .nil pass0 (pa_cons (pv 0) (pa_cons pe_int (pa_cons (pe_glob (v := .int 65535) (by rfl) (Classical.choose_spec T.g_MOST_WORD) ⟨_, rfl⟩) pa_nil)))))), ?_⟩
    rw [show L2.start N_is_word [v] = [some (v)] from rfl]
    try dsimp only [cxOf, Cx.nox]
    tm_at "go"
    exact k _ (by tm_at "same")
def sp_with_part : Sp := fun vs H Q _ => ∃ i j : Int, vs = [.int i, .int j] ∧ Q (.int (i / 256 * 256 + j)) H
theorem i_with_part {H : Hp} {Q : VK} {E : XK} {i j : Int} (q : Q (.int (i / 256 * 256 + j)) H) : sp_with_part [.int i, .int j] H Q E := ⟨i, j, rfl, q⟩
theorem ok_with_part (T : Txt K w mg Z) : FnOk P w K mg base CX0 1 Z.a_with_part Z.d_with_part ["cell", "part"] sp_with_part := by
  refine T.F_with_part.ok sc_with_part (fun vs H Q E h => ?_) (fun cdv A outer s H vs Q E hr h => ?_)
  · obtain ⟨i, j, rfl, _⟩ := h
    rfl
  · obtain ⟨i, j, rfl, k⟩ := h
    refine ⟨_, (pss_one (ps_ret (pe_op op_add (pe_op op_mul (pe_op op_fdiv (pv 0) pe_int) pe_int) (pv 1)))), ?_⟩
    rw [show L2.start N_with_part [V.int i, V.int j] = [some (V.int i), some (V.int j)] from rfl]
    try dsimp only [cxOf, Cx.nox]
    tm_at "go"
    exact k
def sp_law_codes : Sp := fun vs H Q _ => vs = [] ∧ ∀ (H' : Hp) (t : Addr), Same H H' → H t = none → H' t = some (.lst (codesL.map V.str)) → Q (.ref t) H'
theorem i_codes {H : Hp} {Q : VK} {E : XK} (q : ∀ (H' : Hp) (t : Addr), Same H H' → H t = none → H' t = some (.lst (codesL.map V.str)) → Q (.ref t) H') : sp_law_codes [] H Q E := ⟨rfl, q⟩
theorem ok_law_codes (T : Txt K w mg Z) : FnOk P w K mg base CX0 1 Z.a_law_codes Z.d_law_codes [] sp_law_codes := by
  refine T.F_law_codes.ok sc_law_codes (fun vs H Q E h => ?_) (fun cdv A outer s H vs Q E hr h => ?_)
  · obtain ⟨rfl, _⟩ := h
    rfl
  · obtain ⟨rfl, k⟩ := h
    refine ⟨_, (pss_cons (ps_set (i := 0) sc_law_codes.nd rfl (Or.inl rfl) (pe_lst (pa_cons pe_str (pa_cons pe_str (pa_cons pe_str (pa_cons pe_str (pa_cons pe_str (pa_cons pe_str (pa_cons pe_str (pa_cons pe_str pa_nil))))))))))
      (pss_one (ps_ret (pe_op op_cat (pv 0) (pe_lst (pa_cons pe_str (pa_cons pe_str (pa_cons pe_str (pa_cons pe_str (pa_cons pe_str (pa_cons pe_str (pa_cons pe_str (pa_cons pe_str pa_nil))))))))))))), ?_⟩
    rw [show L2.start N_law_codes [] = [none] from rfl]
    try dsimp only [cxOf, Cx.nox]
    tm_at "go"
    exact k _ _ (by tm_at "same") (by tm_at "non") (by assumption)
local macro_rules | `(tactic| tm_at "sp") => `(tactic| first
  | ((with_reducible refine' i_is_word ?h ?_); (case h => tm_at "dt"); intro _ _)
  | with_reducible refine i_with_part ?_
  | ((with_reducible refine' i_codes ?_); intro _ _ _ nt _; (try have := Bag.ne (by tm_at "bag") nt)))
def fourV (n : Int) : List V := [.str ((codesL[(n / 4096).toNat]?).getD ""), .int (n / 1024 % 4), .int (n / 256 % 4), .int (n % 256)]
def fN (n : Int) : Nat → Int
  | 0 => n
  | 1 => n / 256
  | 2 => n / 256 / 4
  | 3 => n / 256 / 4 / 4
  | _ => n / 256 / 4 / 4 / 16
def fL (n : Int) : Nat → List V
  | 0 => []
  | 1 => [.int (n - n / 256 * 256)]
  | 2 => [.int (n / 256 - n / 256 / 4 * 4), .int (n - n / 256 * 256)]
  | 3 => [.int (n / 256 / 4 - n / 256 / 4 / 4 * 4), .int (n / 256 - n / 256 / 4 * 4), .int (n - n / 256 * 256)]
  | _ => [.int (n / 256 / 4 / 4 - n / 256 / 4 / 4 / 16 * 16), .int (n / 256 / 4 - n / 256 / 4 / 4 * 4), .int (n / 256 - n / 256 / 4 * 4), .int (n - n / 256 * 256)]
theorem code_get {j : Int} (h0 : 0 ≤ j) (h1 : j < 16) : atI (codesL.map V.str) j = some (.str ((codesL[j.toNat]?).getD "")) := by
  obtain ⟨m, rfl⟩ : ∃ m : Nat, j = (m : Int) := ⟨j.toNat, by omega⟩
  have hm : m < 16 := by omega
  refine atI_nat ?_
  have hl : m < codesL.length := hm
  rw [List.getElem?_map, Int.toNat_natCast, List.getElem?_eq_getElem hl]
  rfl
def sp_law_fours : Sp := fun vs H Q _ => ∃ n : Int, vs = [.int n] ∧ 0 ≤ n ∧ n ≤ 65535 ∧ ∀ (H' : Hp) (t : Addr), Same H H' → H t = none → H' t = some (.tup (fourV n)) → Q (.ref t) H'
theorem i_fours {H : Hp} {Q : VK} {E : XK} {n : Int} (h0 : 0 ≤ n) (h1 : n ≤ 65535) (q : ∀ (H' : Hp) (t : Addr), Same H H' → H t = none → H' t = some (.tup (fourV n)) → Q (.ref t) H') : sp_law_fours [.int n] H Q E := ⟨n, rfl, h0, h1, q⟩
theorem ok_law_fours (T : Txt K w mg Z) : FnOk P w K mg base CX0 2 Z.a_law_fours Z.d_law_fours ["_law_number_y"] sp_law_fours := by
  have G_law_codes := ok_law_codes (P := P) (base := base) T
  refine T.F_law_fours.ok sc_law_fours (fun vs H Q E h => ?_) (fun cdv A outer s H vs Q E hr h => ?_)
  · obtain ⟨n, rfl, _⟩ := h
    rfl
  · obtain ⟨n, rfl, h0, h1, k⟩ := h
    refine ⟨_, (pss_cons (ps_set (i := 1) sc_law_fours.nd rfl (Or.inl rfl) (pe_lst pa_nil))
      (pss_cons (ps_for PassesOwn.never rfl (pi_list (pe_lst (pa_cons pe_int (pa_cons pe_int (pa_cons pe_int (pa_cons pe_int pa_nil)))))) (pg_name (i := 2) sc_law_fours.nd rfl (Or.inl rfl)) (pss_one (ps_par (i := 1) (j := 0) (by rfl) sc_law_fours.nd rfl rfl (by decide) rfl rfl (pa_cons (pe_op op_cat (pe_lst (pa_cons (pe_op op_sub (pv 0) (pe_op op_mul (pe_op op_fdiv (pv 0) (pv 2)) (pv 2))) pa_nil)) (pv 1)) (pa_cons (pe_op op_fdiv (pv 0) (pv 2)) pa_nil)) (by rfl))))
      (pss_one (ps_ret (pe_tup (pa_cons (pe_ix (ix_list : IxR _ (rIxL K)) (pe_call0 G_law_codes (hr.mono (by omega)) (by rfl) T.m_law_codes T.F_law_codes.kp T.b_law_codes .nil pass0 ) (pe_ix (ix_list : IxR _ (rIxL K)) (pv 1) pe_int (fun _ _ => rfl)) (fun _ _ => rfl)) (pa_cons (pe_ix (ix_list : IxR _ (rIxL K)) (pv 1) pe_int (fun _ _ => rfl)) (pa_cons (pe_ix (ix_list : IxR _ (rIxL K)) (pv 1) pe_int (fun _ _ => rfl)) (pa_cons (pe_ix (ix_list : IxR _ (rIxL K)) (pv 1) pe_int (fun _ _ => rfl)) pa_nil))))))))), ?_⟩
    rw [show L2.start N_law_fours [V.int n] = [some (V.int n), none, none] from rfl]
    try dsimp only [cxOf, Cx.nox]
    tm_at "go"
    rename_i q0 G0 n0 s0 e0 p0 G1 n1 s1 e1
    refine Go.for_w (walk_list (K := K) (xs := [.int 256, .int 4, .int 4, .int 16])) (fun i σ H' => ∃ (v2 : Option V) (q : Addr), σ = [some (.int (fN n i)), some (.ref q), v2] ∧ Same G1 H' ∧ H' q = some (.lst (fL n i))) ⟨_, q0, rfl, Same.refl _, by tm_at "hpO"⟩ (fun i σ H' _ ⟨_, _, _, s2, _⟩ => SqL.of (s2 _ _ e1)) ?_ ?_
    · rintro i y σ H2 H3 hi ⟨v2, q, rfl, s2, e2⟩ ⟨rfl, hv⟩
      match i, hv, e2 with
      | 0, hv, e2 => cases hv; (try dsimp only [fN, fL] at e2 ⊢); tm_at "go"; exact ⟨_, _, rfl, by tm_at "same", by assumption⟩
      | 1, hv, e2 => cases hv; (try dsimp only [fN, fL] at e2 ⊢); tm_at "go"; exact ⟨_, _, rfl, by tm_at "same", by assumption⟩
      | 2, hv, e2 => cases hv; (try dsimp only [fN, fL] at e2 ⊢); tm_at "go"; exact ⟨_, _, rfl, by tm_at "same", by assumption⟩
      | 3, hv, e2 => cases hv; (try dsimp only [fN, fL] at e2 ⊢); tm_at "go"; exact ⟨_, _, rfl, by tm_at "same", by assumption⟩
      | i + 4, hv, _ => cases hv
    · rintro σ H2 ⟨v2, q, rfl, s2, e2⟩
      have e2 : H2 q = some (.lst [.int (n / 256 / 4 / 4 - n / 256 / 4 / 4 / 16 * 16), .int (n / 256 / 4 - n / 256 / 4 / 4 * 4), .int (n / 256 - n / 256 / 4 * 4), .int (n - n / 256 * 256)]) := e2
      tm_at "go"
      refine Go.ixL (by tm_at "hpL") (code_get (by omega) (by omega)) ?_
      tm_at "go"
      rename_i pt G5 n5 s5 e5
      refine k _ _ (by tm_at "same") (by tm_at "non") ?_
      rw [e5]
      unfold fourV
      rw [show n / 256 / 4 / 4 - n / 256 / 4 / 4 / 16 * 16 = n / 4096 by omega, show n / 256 / 4 - n / 256 / 4 / 4 * 4 = n / 1024 % 4 by omega, show n / 256 - n / 256 / 4 * 4 = n / 256 % 4 by omega, show n - n / 256 * 256 = n % 256 by omega]
end
local macro_rules | `(tactic| tm_at "sp") => `(tactic| ((with_reducible refine' i_fours ?a ?b ?_); (case a => omega); (case b => omega); intro _ _ _ nt _; (try have := Bag.ne (by tm_at "bag") nt)))
local macro_rules | `(tactic| tm_at "sp") => `(tactic| first
  | ((with_reducible refine' i_is_word ?h ?_); (case h => tm_at "dt"); intro _ _)
  | with_reducible refine i_with_part ?_
  | ((with_reducible refine' i_codes ?_); intro _ _ _ nt _; (try have := Bag.ne (by tm_at "bag") nt)))

open Lend LamX NdefX SupX
def isCode : PyData → Bool
  | .str z => codesL.contains z
  | _ => false
/-- what cell_of lets out -/
def cellE (KN KI : EKind) (w r s p : V) (dw dr ds dp : PyData) : Option (EKind × List V) :=
  if isCode dw = false then some (KN, [w]) else if numD 0 3 dr = false then some (KI, [r]) else if numD 0 3 ds = false then some (KI, [s]) else if numD 0 255 dp = false then some (KI, [p]) else none
structure CellIs (dw dr ds dp : PyData) (n : Int) : Prop where
  ex : ∃ (z : Str) (j : Nat) (a b c : Int), dw = .str z ∧ codesL[j]? = some z ∧ dr = .int a ∧ ds = .int b ∧ dp = .int c ∧ n = (j : Int) * 4096 + a * 1024 + b * 256 + c
theorem contains_at {z : Str} {l : List Str} (h : l.contains z = true) : ∃ j : Nat, l[j]? = some z ∧ ∀ m, m < j → l[m]? ≠ some z := by
  induction l with
  | nil => cases h
  | cons a r ih =>
    by_cases e : a = z
    · subst e
      exact ⟨0, rfl, fun m hm => absurd hm (Nat.not_lt_zero _)⟩
    · have h' : r.contains z = true := by
        rw [List.contains_cons, Bool.or_eq_true] at h
        rcases h with h | h
        · exact absurd (eq_of_beq h).symm e
        · exact h
      obtain ⟨j, h1, h2⟩ := ih h'
      refine ⟨j + 1, h1, fun m hm => ?_⟩
      match m with
      | 0 => exact fun q => e (Option.some.inj q)
      | m + 1 => exact h2 m (by omega)
theorem inV_str {z : Str} : ∀ {l : List Str}, inV (.str z) (l.map V.str) = l.contains z := by
  intro l
  induction l with
  | nil => rfl
  | cons a r ih =>
    show (eqV (.str a) (.str z) || inV (.str z) (r.map V.str)) = _
    rw [ih, List.contains_cons]
    have e : eqV (.str a) (.str z) = (z == a) := by
      show (a == z) = (z == a)
      rw [Bool.eq_iff_iff]
      constructor
      · intro h
        exact beq_iff_eq.mpr (eq_of_beq h).symm
      · intro h
        exact beq_iff_eq.mpr (eq_of_beq h).symm
    rw [e]
def kN (D : Addr) : EKind := ⟨D, "InvalidName", ["value"]⟩
def kI (D : Addr) : EKind := ⟨D, "InvalidNumber", ["value"]⟩
theorem inT {K : PySem.W.Frag} {neg : Bool} {H : Hp} {z : Str} {p : Addr} {l : List Str} {b : Bool} {Q : VK} (h : SqT K H p (l.map V.str)) (e : l.contains z = b) (q : Q (.bl (if neg = true then !b else b)) H) : rIn K neg (.str z) (.ref p) H Q :=
  ⟨p, _, rfl, .inr h, rfl, by rw [List.all_eq_true]; intro x hx; obtain ⟨y, _, rfl⟩ := List.mem_map.mp hx; rfl, by rw [inV_str, e]; exact q⟩
theorem inLs {K : PySem.W.Frag} {neg : Bool} {H : Hp} {z : Str} {p : Addr} {l : List Str} {b : Bool} {Q : VK} (h : SqL K H p (l.map V.str)) (e : l.contains z = b) (q : Q (.bl (if neg = true then !b else b)) H) : rIn K neg (.str z) (.ref p) H Q :=
  ⟨p, _, rfl, .inl h, rfl, by rw [List.all_eq_true]; intro x hx; obtain ⟨y, _, rfl⟩ := List.mem_map.mp hx; rfl, by rw [inV_str, e]; exact q⟩
section
variable {P : Program} {w : World} {K : PySem.W.Frag} {mg : Str → Option Value} {base : Heap} {Z : Fs}
/-- its shape: the errors told before the values -/
def Shown (K : PySem.W.Frag) (H : Hp) (o : Option (EKind × List V)) : Prop := ∀ e xs, o = some (e, xs) → ∀ x ∈ xs, ∃ c, Shows K H x c ∧ c ≤ 5000
def sp_cell_of (K : PySem.W.Frag) (KN KI : EKind) : Sp := fun vs H Q E => ∃ (x r s p : V) (b : Addr) (dw dr ds dp : PyData), vs = [x, r, s, p] ∧ Dt K H b x dw ∧ Dt K H b r dr ∧ Dt K H b s ds ∧ Dt K H b p dp ∧ Shown K H (cellE KN KI x r s p dw dr ds dp) ∧
  (∀ e xs, cellE KN KI x r s p dw dr ds dp = some (e, xs) → ∀ d H', ErrAt H H' d e xs → E (.ref e.D) (some d) H') ∧ (cellE KN KI x r s p dw dr ds dp = none → ∀ (n : Int) (H' : Hp), CellIs dw dr ds dp n → Same H H' → Q (.int n) H')
theorem ok_cell_of {DN DI f0 f1 : Addr} {fd0 fd1 : FuncData} (T : Txt K w mg Z) (PS : ProgS P FL) (EC_InvalidName : EC K mg "InvalidName" "InvalidName.__init__" s_E_InvalidName (kN DN) f0 fd0) (EC_InvalidNumber : EC K mg "InvalidNumber" "InvalidNumber.__init__" s_E_InvalidNumber (kI DI) f1 fd1) :
    FnOk P w K mg base (L2N.CX P w) 3 Z.a_cell_of Z.d_cell_of ["word", "r", "s", "part"] (sp_cell_of K (kN DN) (kI DI)) := by
  have G_is_number := ok_is_number (P := P) (base := base) T
  have G_E_InvalidName := ok_E_InvalidName (P := P) (w := w) (base := base) PS EC_InvalidName
  have G_E_InvalidNumber := ok_E_InvalidNumber (P := P) (w := w) (base := base) PS EC_InvalidNumber
  refine T.F_cell_of.ok sc_cell_of (fun vs H Q E h => ?_) (fun cdv A outer s H vs Q E hr h => ?_)
  · obtain ⟨x, r, s, p, b, dw, dr, ds, dp, rfl, _⟩ := h
    rfl
  · obtain ⟨x, r, s', p, b, dw, dr, ds, dp, rfl, hx, h1, h2, h3, sh, kE, kV⟩ := h
    have tk : L2N.Takes (cxOf (L2N.CX P w) P w K mg base N_cell_of "cell_of" (defScope s_cell_of) Z.a_cell_of cdv A outer s H E) (fun cls d _ H => E cls d H) := L2N.takes_of (E₁ := fun e' s'' => L2N.CX P w outer H s E e' s'') rfl rfl rfl rfl
    refine ⟨_, (pss_cons (ps_if (PW.pt (pw_or (pt_not (pt_val (pe_callB (call_isi : CallR _ _ (rIsi K)) (by rfl) T.n_isinstance boot_isinstance (pa_cons (pv 0) (pa_cons (pe_bltn (v := .ty "str") (by rfl) T.n_str boot_str rfl) pa_nil))))) (pw_or1 (pt_cmpR op_notIn_seq (pv 0) (pe_glob (v := .ref Z.c_CODES) (by rfl) T.g_CODES rfl) (by rfl))))) (pss_one (L2N.ps_raise rfl tk (LendN.pmkN_own EC_InvalidName.V.oex EC_InvalidName.V.ini EC_InvalidName.V.tI G_E_InvalidName (hr.mono (by omega)) EC_InvalidName.b pass0 (by rfl) EC_InvalidName.V.mgx (pa_cons (pv 0) pa_nil)))) pss_nil)
      (pss_cons (ps_for (passes_of rfl) rfl (pi_tup (pe_tup (pa_cons (pe_tup (pa_cons (pv 1) (pa_cons pe_int pa_nil))) (pa_cons (pe_tup (pa_cons (pv 2) (pa_cons pe_int pa_nil))) (pa_cons (pe_tup (pa_cons (pv 3) (pa_cons pe_int pa_nil))) pa_nil))))) (pg_tup (by rfl) (pgs_cons (pg_name (i := 4) sc_cell_of.nd rfl (Or.inl rfl)) (pgs_cons (pg_name (i := 5) sc_cell_of.nd rfl (Or.inl rfl)) pgs_nil))) (pss_one (ps_if (pt_not (pt_val (pe_call G_is_number (hr.mono (by omega)) (by rfl) T.m_is_number T.F_is_number.kp T.b_is_number .nil pass0 (pa_cons (pv 4) (pa_cons pe_int (pa_cons (pv 5) pa_nil)))))) (pss_one (L2N.ps_raise rfl tk (LendN.pmkN_own EC_InvalidNumber.V.oex EC_InvalidNumber.V.ini EC_InvalidNumber.V.tI G_E_InvalidNumber (hr.mono (by omega)) EC_InvalidNumber.b pass0 (by rfl) EC_InvalidNumber.V.mgx (pa_cons (pv 4) pa_nil)))) pss_nil)))
      (pss_one (ps_ret (pe_op op_add (pe_op op_add (pe_op op_add (pe_op op_mul (pe_bm PySem.F.plainAttrs_tuple PySem.F.slot_tuple_index PySem.F.type_tuple_index mt_tup_index (pe_glob (v := .ref Z.c_CODES) (by rfl) T.g_CODES rfl) (pa_cons (pv 0) pa_nil)) pe_int) (pe_op op_mul (pv 1) pe_int)) (pe_op op_mul (pv 2) pe_int)) (pv 3)))))), ?_⟩
    rw [show L2.start N_cell_of [x, r, s', p] = [some (x), some (r), some (s'), some (p), none, none] from rfl]
    try dsimp only [cxOf, Cx.nox]
    have tC : ∀ G : Hp, SqT K G Z.c_CODES (codesL.map V.str) := T.v_CODES
    cases hx with
    | @str z hz =>
      cases hc : codesL.contains z with
      | true =>
        have ic : isCode (.str z) = true := hc
        obtain ⟨j, hj, hj2⟩ := contains_at hc
        tm_at "go"
        refine inT (tC _) hc ?_
        tm_at "go"
        rename_i t1 G1 n1 s1 e1 t2 G2 n2 s2 e2 t3 G3 n3 s3 e3 pt G4 n4 s4 e4
        have D1 : Dt K G4 b r dr := h1.same (H := H) (by tm_at "same")
        have D2 : Dt K G4 b s' ds := h2.same (H := H) (by tm_at "same")
        have D3 : Dt K G4 b p dp := h3.same (H := H) (by tm_at "same")
        refine Go.for_w (walk_tup (K := K) (xs := [.ref t1, .ref t2, .ref t3])) (fun i σ H' => ∃ v4 v5, σ = [some (.str z), some r, some s', some p, v4, v5] ∧ Same G4 H' ∧ (0 < i → numD 0 3 dr = true) ∧ (1 < i → numD 0 3 ds = true) ∧ (2 < i → numD 0 255 dp = true)) ⟨_, _, rfl, Same.refl _, by omega, by omega, by omega⟩ (fun i σ H' _ ⟨_, _, _, s5, _⟩ => SqT.of (s5 _ _ e4)) ?_ ?_
        · rintro i y σ H2 H3 hi ⟨v4, v5, rfl, s5, g0, g1, g2⟩ ⟨rfl, hv⟩
          match i, hv, g0, g1, g2 with
          | 0, hv, g0, g1, g2 =>
            cases hv
            tm_at "go"
            · rename_i q
              exact ⟨_, _, rfl, by tm_at "same", fun _ => q, by omega, by omega⟩
            · rename_i Gq sq q
              have S5 : Same H Gq := by tm_at "same"
              have ee : cellE (kN DN) (kI DI) (.str z) r s' p (.str z) dr ds dp = some (kI DI, [r]) := by simp [cellE, ic, q]
              obtain ⟨c, hs, hl⟩ := sh _ _ ee _ (.head _)
              exact mk_err rfl (Shows.same S5 hs) hl fun d G' e => kE _ _ ee d G' ⟨Go.freeS S5 e.new, S5.trans e.same, e.at_⟩
          | 1, hv, g0, g1, g2 =>
            cases hv
            tm_at "go"
            · rename_i q
              exact ⟨_, _, rfl, by tm_at "same", fun _ => g0 (by omega), fun _ => q, by omega⟩
            · rename_i Gq sq q
              have S5 : Same H Gq := by tm_at "same"
              have ee : cellE (kN DN) (kI DI) (.str z) r s' p (.str z) dr ds dp = some (kI DI, [s']) := by simp [cellE, ic, q, g0 (by omega)]
              obtain ⟨c, hs, hl⟩ := sh _ _ ee _ (.head _)
              exact mk_err rfl (Shows.same S5 hs) hl fun d G' e => kE _ _ ee d G' ⟨Go.freeS S5 e.new, S5.trans e.same, e.at_⟩
          | 2, hv, g0, g1, g2 =>
            cases hv
            tm_at "go"
            · rename_i q
              exact ⟨_, _, rfl, by tm_at "same", fun _ => g0 (by omega), fun _ => g1 (by omega), fun _ => q⟩
            · rename_i Gq sq q
              have S5 : Same H Gq := by tm_at "same"
              have ee : cellE (kN DN) (kI DI) (.str z) r s' p (.str z) dr ds dp = some (kI DI, [p]) := by simp [cellE, ic, q, g0 (by omega), g1 (by omega)]
              obtain ⟨c, hs, hl⟩ := sh _ _ ee _ (.head _)
              exact mk_err rfl (Shows.same S5 hs) hl fun d G' e => kE _ _ ee d G' ⟨Go.freeS S5 e.new, S5.trans e.same, e.at_⟩
          | i + 3, hv, _, _, _ => cases hv
        · rintro σ H2 ⟨v4, v5, rfl, s5, g0, g1, g2⟩
          have q0 := g0 (Nat.lt_of_sub_eq_succ rfl)
          have q1 := g1 (Nat.lt_of_sub_eq_succ rfl)
          have q2 := g2 (Nat.lt_of_sub_eq_succ rfl)
          have ee : cellE (kN DN) (kI DI) (.str z) r s' p (.str z) dr ds dp = none := by simp [cellE, ic, q0, q1, q2]
          obtain ⟨a1, rfl⟩ : ∃ i, dr = .int i := by
            cases dr <;> simp [numD] at q0
            exact ⟨_, rfl⟩
          obtain ⟨a2, rfl⟩ : ∃ i, ds = .int i := by
            cases ds <;> simp [numD] at q1
            exact ⟨_, rfl⟩
          obtain ⟨a3, rfl⟩ : ∃ i, dp = .int i := by
            cases dp <;> simp [numD] at q2
            exact ⟨_, rfl⟩
          cases h1
          cases h2
          cases h3
          tm_at "go"
          refine Go.bm ?_
          tm_at "go1"
          refine ⟨.inr (.inl ⟨rfl, T.L_CODES⟩), ?_⟩
          tm_at "go"
          refine ⟨Z.c_CODES, codesL, z, j, rfl, rfl, tC _, hj, hj2, ?_⟩
          tm_at "go"
          exact kV ee _ _ ⟨z, j, a1, a2, a3, rfl, hj, rfl, rfl, rfl, rfl⟩ (by tm_at "same")
      | false =>
        have ic : isCode (.str z) = false := hc
        tm_at "go"
        refine inT (tC _) hc ?_
        tm_at "go"
        have ee : cellE (kN DN) (kI DI) (.str z) r s' p (.str z) dr ds dp = some (kN DN, [.str z]) := by simp [cellE, ic]
        obtain ⟨c, hs, hl⟩ := sh _ _ ee _ (.head _)
        exact mk_err rfl hs hl fun d G' e => kE _ _ ee d G' ⟨e.new, e.same, e.at_⟩
    | non =>
      tm_at "go"
      all_goals (obtain ⟨c, hs, hl⟩ := sh _ _ rfl _ (.head _); exact mk_err rfl hs hl fun d G' e => kE _ _ rfl d G' ⟨e.new, e.same, e.at_⟩)
    | bl v =>
      tm_at "go"
      all_goals (obtain ⟨c, hs, hl⟩ := sh _ _ rfl _ (.head _); exact mk_err rfl hs hl fun d G' e => kE _ _ rfl d G' ⟨e.new, e.same, e.at_⟩)
    | int v =>
      tm_at "go"
      all_goals (obtain ⟨c, hs, hl⟩ := sh _ _ rfl _ (.head _); exact mk_err rfl hs hl fun d G' e => kE _ _ rfl d G' ⟨e.new, e.same, e.at_⟩)
    | lst u1 u2 u3 u4 =>
      have hx0 := Dt.lst u1 u2 u3 u4
      tm_at "go"
      all_goals (obtain ⟨c, hs, hl⟩ := sh _ _ rfl _ (.head _); exact mk_err rfl hs hl fun d G' e => kE _ _ rfl d G' ⟨e.new, e.same, e.at_⟩)
    | tup u1 u2 u3 u4 =>
      have hx0 := Dt.tup u1 u2 u3 u4
      tm_at "go"
      all_goals (obtain ⟨c, hs, hl⟩ := sh _ _ rfl _ (.head _); exact mk_err rfl hs hl fun d G' e => kE _ _ rfl d G' ⟨e.new, e.same, e.at_⟩)
def sp_parted (K : PySem.W.Frag) (KI : EKind) : Sp := fun vs H Q E => ∃ (x : V) (b : Addr) (d : PyData), vs = [x] ∧ Dt K H b x d ∧ (numD 0 65535 d = false → ∃ c, Shows K H x c ∧ c ≤ 5000) ∧
  (numD 0 65535 d = false → ∀ d' H', ErrAt H H' d' KI [x] → E (.ref KI.D) (some d') H') ∧ (∀ (n : Int) (H' : Hp) (t : Addr), d = .int n → 0 ≤ n → n ≤ 65535 → Same H H' → H t = none → H' t = some (.tup (fourV n)) → Q (.ref t) H')
theorem ok_parted {DI f1 : Addr} {fd1 : FuncData} (T : Txt K w mg Z) (PS : ProgS P FL) (EC_InvalidNumber : EC K mg "InvalidNumber" "InvalidNumber.__init__" s_E_InvalidNumber (kI DI) f1 fd1) :
    FnOk P w K mg base (L2N.CX P w) 3 Z.a_parted Z.d_parted ["cell"] (sp_parted K (kI DI)) := by
  have G_is_word := ok_is_word (P := P) (base := base) T
  have G_E_InvalidNumber := ok_E_InvalidNumber (P := P) (w := w) (base := base) PS EC_InvalidNumber
  refine LendN.okN T.F_parted sc_parted (fun vs H Q E h => ?_) (fun cdv A outer s H vs Q E hr h => ?_)
  · obtain ⟨x, b, d, rfl, _⟩ := h
    rfl
  · obtain ⟨x, b, d, rfl, hx, sh, kE, kV⟩ := h
    have tC : ∀ G : Hp, SqT K G Z.c_CODES (codesL.map V.str) := T.v_CODES
    have tk : L2N.Takes (cxOf (L2N.CX P w) P w K mg base N_parted "parted" (defScope s_parted) Z.a_parted cdv A outer s H E) (fun cls d _ H => E cls d H) := L2N.takes_of (E₁ := fun e' s'' => L2N.CX P w outer H s E e' s'') rfl rfl rfl rfl
    refine ⟨_, (pss_cons (ps_if (pt_not (pt_val (pe_call G_is_word (hr.mono (by omega)) (by rfl) T.m_is_word T.F_is_word.kp T.b_is_word .nil pass0 (pa_cons (pv 0) pa_nil)))) (pss_one (L2N.ps_raise rfl tk (LendN.pmkN_own EC_InvalidNumber.V.oex EC_InvalidNumber.V.ini EC_InvalidNumber.V.tI G_E_InvalidNumber (hr.mono (by omega)) EC_InvalidNumber.b pass0 (by rfl) EC_InvalidNumber.V.mgx (pa_cons (pv 0) pa_nil)))) pss_nil)
      (pss_one (ps_ret (pe_tup (pa_cons (pe_ix (ix_tup : IxR _ (rIxT K)) (pe_glob (v := .ref Z.c_CODES) (by rfl) T.g_CODES rfl) (pe_op op_fdiv (pv 0) pe_int) (fun _ _ => rfl)) (pa_cons (pe_op op_mod (pe_op op_fdiv (pv 0) pe_int) pe_int) (pa_cons (pe_op op_mod (pe_op op_fdiv (pv 0) pe_int) pe_int) (pa_cons (pe_op op_mod (pv 0) pe_int) pa_nil)))))))), ?_⟩
    rw [show L2.start N_parted [x] = [some (x)] from rfl]
    try dsimp only [cxOf, Cx.nox]
    tm_at "go"
    · rename_i G1 s1 q
      obtain ⟨n, rfl, n0, n1⟩ : ∃ n, d = .int n ∧ 0 ≤ n ∧ n ≤ 65535 := by
        cases d <;> simp [numD] at q
        exact ⟨_, rfl, q.1, q.2⟩
      cases hx
      tm_at "go"
      refine Go.ixT (tC _) (code_get (by omega) (by omega)) ?_
      tm_at "go"
      exact kV n _ _ rfl n0 n1 (by tm_at "same") (by tm_at "non") (by assumption)
    · rename_i G1 s1 q
      obtain ⟨c, hs, hl⟩ := sh q
      exact mk_err rfl (Shows.same s1 hs) hl fun d G' e => kE q d G' ⟨Go.freeS s1 e.new, s1.trans e.same, e.at_⟩
def sp_law_cell_due (K : PySem.W.Frag) : Sp := fun vs H Q _ => ∃ (p b : Addr) (x r s q : V) (dw dr ds dp : PyData), vs = [.ref p] ∧ SqL K H p [x, r, s, q] ∧ Dt K H b x dw ∧ Dt K H b r dr ∧ Dt K H b s ds ∧ Dt K H b q dp ∧
  ∀ (H' : Hp) (t : Addr), Same H H' → H t = none → WhyAt (wy (cellE (kN 0) (kI 0) x r s q dw dr ds dp)) H' t → Q (.ref t) H'
theorem ok_law_cell_due (T : Txt K w mg Z) : FnOk P w K mg base CX0 2 Z.a_law_cell_due Z.d_law_cell_due ["_law_values"] (sp_law_cell_due K) := by
  have G_law_codes := ok_law_codes (P := P) (base := base) T
  have G_law_within := ok_law_within (P := P) (base := base) T
  refine T.F_law_cell_due.ok sc_law_cell_due (fun vs H Q E h => ?_) (fun cdv A outer s H vs Q E hr h => ?_)
  · obtain ⟨p, b, x, r, s, q, dw, dr, ds, dp, rfl, _⟩ := h
    rfl
  · obtain ⟨p, b, x, r, s', q, dw, dr, ds, dp, rfl, hp, hx, h1, h2, h3, k⟩ := h
    refine ⟨_, (pss_cons (ps_if (PW.pt (pw_or (pt_not (pt_val (pe_callB (call_isi : CallR _ _ (rIsi K)) (by rfl) T.n_isinstance boot_isinstance (pa_cons (pe_ix (ix_list : IxR _ (rIxL K)) (pv 0) pe_int (fun _ _ => rfl)) (pa_cons (pe_bltn (v := .ty "str") (by rfl) T.n_str boot_str rfl) pa_nil))))) (pw_or1 (pt_cmpR op_notIn_seq (pe_ix (ix_list : IxR _ (rIxL K)) (pv 0) pe_int (fun _ _ => rfl)) (pe_call0 G_law_codes (hr.mono (by omega)) (by rfl) T.m_law_codes T.F_law_codes.kp T.b_law_codes .nil pass0 ) (by rfl))))) (pss_one (ps_ret (pe_tup (pa_cons pe_str (pa_cons (pe_tup (pa_cons (pe_ix (ix_list : IxR _ (rIxL K)) (pv 0) pe_int (fun _ _ => rfl)) pa_nil)) pa_nil))))) pss_nil)
      (pss_cons (ps_for PassesOwn.never rfl (pi_list (pe_lst (pa_cons (pe_tup (pa_cons pe_int (pa_cons pe_int pa_nil))) (pa_cons (pe_tup (pa_cons pe_int (pa_cons pe_int pa_nil))) (pa_cons (pe_tup (pa_cons pe_int (pa_cons pe_int pa_nil))) pa_nil))))) (pg_tup (by rfl) (pgs_cons (pg_name (i := 1) sc_law_cell_due.nd rfl (Or.inl rfl)) (pgs_cons (pg_name (i := 2) sc_law_cell_due.nd rfl (Or.inl rfl)) pgs_nil))) (pss_one (ps_if (pt_not (pt_val (pe_call G_law_within (hr.mono (by omega)) (by rfl) T.m_law_within T.F_law_within.kp T.b_law_within .nil pass0 (pa_cons (pe_ix (ix_list : IxR _ (rIxL K)) (pv 0) (pv 1) (fun _ _ => rfl)) (pa_cons pe_int (pa_cons (pv 2) pa_nil)))))) (pss_one (ps_ret (pe_tup (pa_cons pe_str (pa_cons (pe_tup (pa_cons (pe_ix (ix_list : IxR _ (rIxL K)) (pv 0) (pv 1) (fun _ _ => rfl)) pa_nil)) pa_nil))))) pss_nil)))
      (pss_one (ps_ret (pe_tup (pa_cons pe_str (pa_cons pe_non pa_nil))))))), ?_⟩
    rw [show L2.start N_law_cell_due [V.ref p] = [some (V.ref p), none, none] from rfl]
    try dsimp only [cxOf, Cx.nox]
    cases hx with
    | @str z hz =>
      cases hc : codesL.contains z with
      | true =>
        have ic : isCode (.str z) = true := hc
        tm_at "go"
        refine inLs (by tm_at "hpL") hc ?_
        tm_at "go"
        rename_i tc G0 s0 n0 e0 t1 G1 n1 s1 e1 t2 G2 n2 s2 e2 t3 G3 n3 s3 e3 pt G4 n4 s4 e4
        have D1 : Dt K G4 b r dr := h1.same (H := H) (by tm_at "same")
        have D2 : Dt K G4 b s' ds := h2.same (H := H) (by tm_at "same")
        have D3 : Dt K G4 b q dp := h3.same (H := H) (by tm_at "same")
        refine Go.for_w (walk_list (K := K) (xs := [.ref t1, .ref t2, .ref t3])) (fun i σ H' => ∃ v4 v5, σ = [some (.ref p), v4, v5] ∧ Same G4 H' ∧ (0 < i → numD 0 3 dr = true) ∧ (1 < i → numD 0 3 ds = true) ∧ (2 < i → numD 0 255 dp = true)) ⟨_, _, rfl, Same.refl _, by omega, by omega, by omega⟩ (fun i σ H' _ ⟨_, _, _, s5, _⟩ => SqL.of (s5 _ _ e4)) ?_ ?_
        · rintro i y σ H2 H3 hi ⟨v4, v5, rfl, s5, g0, g1, g2⟩ ⟨rfl, hv⟩
          match i, hv, g0, g1, g2 with
          | 0, hv, g0, g1, g2 =>
            cases hv
            tm_at "go"
            · rename_i qz
              exact ⟨_, _, rfl, by tm_at "same", fun _ => qz, by omega, by omega⟩
            · rename_i Gq sq qq u Gu nu su eu tt Gt nt st et
              refine k _ _ (by tm_at "same") (by tm_at "non") ?_
              have ee : cellE (kN 0) (kI 0) (.str z) r s' q (.str z) dr ds dp = some (kI 0, [r]) := by simp [cellE, ic, qq]
              rw [ee]
              exact ⟨u, by tm_at "hpO", by tm_at "hpO"⟩
          | 1, hv, g0, g1, g2 =>
            cases hv
            tm_at "go"
            · rename_i qz
              exact ⟨_, _, rfl, by tm_at "same", fun _ => g0 (by omega), fun _ => qz, by omega⟩
            · rename_i Gq sq qq u Gu nu su eu tt Gt nt st et
              refine k _ _ (by tm_at "same") (by tm_at "non") ?_
              have ee : cellE (kN 0) (kI 0) (.str z) r s' q (.str z) dr ds dp = some (kI 0, [s']) := by simp [cellE, ic, qq, g0 (by omega)]
              rw [ee]
              exact ⟨u, by tm_at "hpO", by tm_at "hpO"⟩
          | 2, hv, g0, g1, g2 =>
            cases hv
            tm_at "go"
            · rename_i qz
              exact ⟨_, _, rfl, by tm_at "same", fun _ => g0 (by omega), fun _ => g1 (by omega), fun _ => qz⟩
            · rename_i Gq sq qq u Gu nu su eu tt Gt nt st et
              refine k _ _ (by tm_at "same") (by tm_at "non") ?_
              have ee : cellE (kN 0) (kI 0) (.str z) r s' q (.str z) dr ds dp = some (kI 0, [q]) := by simp [cellE, ic, qq, g0 (by omega), g1 (by omega)]
              rw [ee]
              exact ⟨u, by tm_at "hpO", by tm_at "hpO"⟩
          | i + 3, hv, _, _, _ => cases hv
        · rintro σ H2 ⟨v4, v5, rfl, s5, g0, g1, g2⟩
          have q0 := g0 (Nat.lt_of_sub_eq_succ rfl)
          have q1 := g1 (Nat.lt_of_sub_eq_succ rfl)
          have q2 := g2 (Nat.lt_of_sub_eq_succ rfl)
          have ee : cellE (kN 0) (kI 0) (.str z) r s' q (.str z) dr ds dp = none := by simp [cellE, ic, q0, q1, q2]
          tm_at "go"
          refine k _ _ (by tm_at "same") (by tm_at "non") ?_
          rw [ee]
          assumption
      | false =>
        have ic : isCode (.str z) = false := hc
        tm_at "go"
        refine inLs (by tm_at "hpL") hc ?_
        tm_at "go"
        refine k _ _ (by tm_at "same") (by tm_at "non") ?_
        have ee : cellE (kN 0) (kI 0) (.str z) r s' q (.str z) dr ds dp = some (kN 0, [.str z]) := by simp [cellE, ic]
        rw [ee]
        exact ⟨_, by tm_at "hpO", by tm_at "hpO"⟩
    | non =>
      tm_at "go"
      exact k _ _ (by tm_at "same") (by tm_at "non") ⟨_, by tm_at "hpO", by tm_at "hpO"⟩
    | bl v =>
      tm_at "go"
      exact k _ _ (by tm_at "same") (by tm_at "non") ⟨_, by tm_at "hpO", by tm_at "hpO"⟩
    | int v =>
      tm_at "go"
      exact k _ _ (by tm_at "same") (by tm_at "non") ⟨_, by tm_at "hpO", by tm_at "hpO"⟩
    | lst u1 u2 u3 u4 =>
      have hx0 := Dt.lst u1 u2 u3 u4
      tm_at "go"
      exact k _ _ (by tm_at "same") (by tm_at "non") ⟨_, by tm_at "hpO", by tm_at "hpO"⟩
    | tup u1 u2 u3 u4 =>
      have hx0 := Dt.tup u1 u2 u3 u4
      tm_at "go"
      exact k _ _ (by tm_at "same") (by tm_at "non") ⟨_, by tm_at "hpO", by tm_at "hpO"⟩
end

open Lend LamX NdefX SupX
section
variable {P : Program} {w : World} {K : PySem.W.Frag} {mg : Str → Option Value} {base : Heap} {Z : Fs}
def sp_law_number : Sp := fun vs H Q _ => ∃ (b l : Addr), vs = [.ref b] ∧ Bag H b l ∧ ∀ (H' : Hp) (v : Int), Stp b H H' → Bag H' b l → 0 ≤ v → v ≤ 65535 → Q (.int v) H'
theorem i_number {H : Hp} {Q : VK} {E : XK} {b l : Addr} (hB : Bag H b l) (q : ∀ (H' : Hp) (v : Int), Stp b H H' → Bag H' b l → 0 ≤ v → v ≤ 65535 → Q (.int v) H') : sp_law_number [.ref b] H Q E := ⟨b, l, rfl, hB, q⟩
theorem ok_law_number (T : Txt K w mg Z) : FnOk P w K mg base CX0 3 Z.a_law_number Z.d_law_number ["_law_bag_here"] sp_law_number := by
  have G_law_draw := ok_law_draw (P := P) (base := base) T
  have G_law_of := ok_law_of (P := P) (base := base) T
  refine T.F_law_number.ok sc_law_number (fun vs H Q E h => ?_) (fun cdv A outer s H vs Q E hr h => ?_)
  · obtain ⟨b, l, rfl, _⟩ := h
    rfl
  · obtain ⟨b, l, rfl, hB, k⟩ := h
    refine ⟨_, (pss_one (ps_ret (pe_call G_law_of (hr.mono (by omega)) (by rfl) T.m_law_of T.F_law_of.kp T.b_law_of .nil pass0 (pa_cons (pv 0) (pa_cons (pe_lst (pa_cons pe_int (pa_cons pe_int (pa_cons pe_int (pa_cons pe_int (pa_cons pe_int (pa_cons pe_int (pa_cons pe_int (pa_cons (pe_call G_law_draw (hr.mono (by omega)) (by rfl) T.m_law_draw T.F_law_draw.kp T.b_law_draw .nil pass0 (pa_cons (pv 0) (pa_cons pe_int pa_nil))) (pa_cons (pe_call G_law_draw (hr.mono (by omega)) (by rfl) T.m_law_draw T.F_law_draw.kp T.b_law_draw .nil pass0 (pa_cons (pv 0) (pa_cons pe_int pa_nil))) (pa_cons (pe_call G_law_draw (hr.mono (by omega)) (by rfl) T.m_law_draw T.F_law_draw.kp T.b_law_draw .nil pass0 (pa_cons (pv 0) (pa_cons pe_int pa_nil))) pa_nil))))))))))) pa_nil))))), ?_⟩
    rw [show L2.start N_law_number [V.ref b] = [some (V.ref b)] from rfl]
    try dsimp only [cxOf, Cx.nox]
    tm_at "go"
    rename_i hm
    obtain ⟨n, rfl, n0, n1⟩ : ∃ n : Int, _ = V.int n ∧ 0 ≤ n ∧ n ≤ 65535 := by
      revert hm
      refine fun hm => (show ∀ y ∈ _, ∃ n : Int, y = V.int n ∧ 0 ≤ n ∧ n ≤ 65535 from ?_) _ hm
      tm_at "all"
      all_goals exact ⟨_, rfl, by omega, by omega⟩
    exact k _ _ (by tm_at "but") (by tm_at "bag") n0 n1
local macro_rules | `(tactic| tm_at "sp") => `(tactic| ((with_reducible refine' i_number ?b ?_); (case b => tm_at "bag"); intro _ _ _ _ _ _))
theorem ok_law_field {DN DI : Addr} (T : Txt K w mg Z) (ON : KindOk K mg (kN DN)) (OI : KindOk K mg (kI DI)) : HotP.FnHP P w K mg base C8.CX0 1 Z.a_law_field Z.d_law_field ["_law_e"] (sp_law_field K [kN DN, kI DI]) := by
  obtain ⟨oc, od, kV, doc, pm, an, cdv, ct, osl, e, lk, hcd⟩ := T.F_law_field.ex
  rw [e] at lk ⊢
  refine HotP.fnHP_of lk hcd sc_law_field (fun p vs H Q E h => ?_) (fun A outer s H vs Q E p hot hr h => ?_)
  · obtain ⟨k, _, xs, d, _, rfl, _⟩ := h
    rfl
  · obtain ⟨k, hk, xs, d, hl, rfl, he, kq⟩ := h
    rcases List.mem_cons.mp hk with rfl | hk
    · obtain ⟨x, rfl⟩ : ∃ x, xs = [x] := by
        match xs, hl with
        | [x], _ => exact ⟨x, rfl⟩
      have n1 : PySem.W.findIn K (.ref DN) "value" = some none := ON.attr _ (.head _)
      have n2 : PySem.W.findIn K (.ref DN) "code" = some none := ON.code
      have he : ErrP K H p DN d [("code", .str "InvalidName"), ("value", x)] := he
      refine ⟨_, (pss_cons (ps_if (pt_cmpR (op_in_seq : OpR _ _ (rIn K false)) (HotP.pe_pinf (p := p) List.mem_cons_self (pv 0)) (pe_lst (pa_cons pe_str (pa_cons pe_str (pa_cons pe_str (pa_cons pe_str (pa_cons pe_str pa_nil)))))) (by rfl)) (pss_one (ps_ret (pe_tup (pa_cons (HotP.pe_pinf (p := p) List.mem_cons_self (pv 0)) pa_nil)))) pss_nil)
      (pss_cons (ps_if (pt_cmpR (op_in_seq : OpR _ _ (rIn K false)) (HotP.pe_pinf (p := p) List.mem_cons_self (pv 0)) (pe_lst (pa_cons pe_str (pa_cons pe_str pa_nil))) (by rfl)) (pss_one (ps_ret (pe_tup (pa_cons (HotP.pe_pinf (p := p) List.mem_cons_self (pv 0)) pa_nil)))) pss_nil)
      (pss_cons (ps_if (pt_cmpR op_eq (HotP.pe_pinf (p := p) List.mem_cons_self (pv 0)) pe_str (nomark _)) (pss_one (ps_ret (pe_tup (pa_cons (HotP.pe_pinf (p := p) List.mem_cons_self (pv 0)) (pa_cons (HotP.pe_pinf (p := p) List.mem_cons_self (pv 0)) (pa_cons (HotP.pe_pinf (p := p) List.mem_cons_self (pv 0)) pa_nil)))))) pss_nil)
      (pss_cons (ps_if (pt_cmpR op_eq (HotP.pe_pinf (p := p) List.mem_cons_self (pv 0)) pe_str (nomark _)) (pss_one (ps_ret (pe_tup (pa_cons (HotP.pe_pinf (p := p) List.mem_cons_self (pv 0)) (pa_cons (HotP.pe_pinf (p := p) List.mem_cons_self (pv 0)) pa_nil))))) pss_nil)
      (pss_cons (ps_if (pt_cmpR op_eq (HotP.pe_pinf (p := p) List.mem_cons_self (pv 0)) pe_str (nomark _)) (pss_one (ps_ret (pe_tup (pa_cons (HotP.pe_pinf (p := p) List.mem_cons_self (pv 0)) pa_nil)))) pss_nil)
      (pss_cons (ps_if (pt_cmpR op_eq (HotP.pe_pinf (p := p) List.mem_cons_self (pv 0)) pe_str (nomark _)) (pss_one (ps_ret (pe_tup (pa_cons (HotP.pe_pinf (p := p) List.mem_cons_self (pv 0)) pa_nil)))) pss_nil)
      (pss_cons (ps_if (pt_cmpR op_eq (HotP.pe_pinf (p := p) List.mem_cons_self (pv 0)) pe_str (nomark _)) (pss_one (ps_ret (pe_tup (pa_cons (HotP.pe_pinf (p := p) List.mem_cons_self (pv 0)) pa_nil)))) pss_nil)
      (pss_one (ps_ret (pe_ifExp (pt_cmpR op_eq (HotP.pe_pinf (p := p) List.mem_cons_self (pv 0)) pe_str (nomark _)) (pe_tup pa_nil) (pe_tup (pa_cons (HotP.pe_pinf (p := p) List.mem_cons_self (pv 0)) pa_nil)))))))))))), ?_⟩
      rw [show L2.start N_law_field [V.ref p.1] = [some (V.ref p.1)] from rfl]
      try dsimp only [cxOf, Cx.nox]
      tm_at "go"
      all_goals first
        | exact kq _ _ (by tm_at "same") (by tm_at "non") (by assumption)
        | exact absurd ‹Str.ofString "InvalidName" = _› (by decide +kernel)
    rcases List.mem_cons.mp hk with rfl | hk
    · obtain ⟨x, rfl⟩ : ∃ x, xs = [x] := by
        match xs, hl with
        | [x], _ => exact ⟨x, rfl⟩
      have n1 : PySem.W.findIn K (.ref DI) "value" = some none := OI.attr _ (.head _)
      have n2 : PySem.W.findIn K (.ref DI) "code" = some none := OI.code
      have he : ErrP K H p DI d [("code", .str "InvalidNumber"), ("value", x)] := he
      refine ⟨_, (pss_cons (ps_if (pt_cmpR (op_in_seq : OpR _ _ (rIn K false)) (HotP.pe_pinf (p := p) List.mem_cons_self (pv 0)) (pe_lst (pa_cons pe_str (pa_cons pe_str (pa_cons pe_str (pa_cons pe_str (pa_cons pe_str pa_nil)))))) (by rfl)) (pss_one (ps_ret (pe_tup (pa_cons (HotP.pe_pinf (p := p) List.mem_cons_self (pv 0)) pa_nil)))) pss_nil)
      (pss_cons (ps_if (pt_cmpR (op_in_seq : OpR _ _ (rIn K false)) (HotP.pe_pinf (p := p) List.mem_cons_self (pv 0)) (pe_lst (pa_cons pe_str (pa_cons pe_str pa_nil))) (by rfl)) (pss_one (ps_ret (pe_tup (pa_cons (HotP.pe_pinf (p := p) List.mem_cons_self (pv 0)) pa_nil)))) pss_nil)
      (pss_cons (ps_if (pt_cmpR op_eq (HotP.pe_pinf (p := p) List.mem_cons_self (pv 0)) pe_str (nomark _)) (pss_one (ps_ret (pe_tup (pa_cons (HotP.pe_pinf (p := p) List.mem_cons_self (pv 0)) (pa_cons (HotP.pe_pinf (p := p) List.mem_cons_self (pv 0)) (pa_cons (HotP.pe_pinf (p := p) List.mem_cons_self (pv 0)) pa_nil)))))) pss_nil)
      (pss_cons (ps_if (pt_cmpR op_eq (HotP.pe_pinf (p := p) List.mem_cons_self (pv 0)) pe_str (nomark _)) (pss_one (ps_ret (pe_tup (pa_cons (HotP.pe_pinf (p := p) List.mem_cons_self (pv 0)) (pa_cons (HotP.pe_pinf (p := p) List.mem_cons_self (pv 0)) pa_nil))))) pss_nil)
      (pss_cons (ps_if (pt_cmpR op_eq (HotP.pe_pinf (p := p) List.mem_cons_self (pv 0)) pe_str (nomark _)) (pss_one (ps_ret (pe_tup (pa_cons (HotP.pe_pinf (p := p) List.mem_cons_self (pv 0)) pa_nil)))) pss_nil)
      (pss_cons (ps_if (pt_cmpR op_eq (HotP.pe_pinf (p := p) List.mem_cons_self (pv 0)) pe_str (nomark _)) (pss_one (ps_ret (pe_tup (pa_cons (HotP.pe_pinf (p := p) List.mem_cons_self (pv 0)) pa_nil)))) pss_nil)
      (pss_cons (ps_if (pt_cmpR op_eq (HotP.pe_pinf (p := p) List.mem_cons_self (pv 0)) pe_str (nomark _)) (pss_one (ps_ret (pe_tup (pa_cons (HotP.pe_pinf (p := p) List.mem_cons_self (pv 0)) pa_nil)))) pss_nil)
      (pss_one (ps_ret (pe_ifExp (pt_cmpR op_eq (HotP.pe_pinf (p := p) List.mem_cons_self (pv 0)) pe_str (nomark _)) (pe_tup pa_nil) (pe_tup (pa_cons (HotP.pe_pinf (p := p) List.mem_cons_self (pv 0)) pa_nil)))))))))))), ?_⟩
      rw [show L2.start N_law_field [V.ref p.1] = [some (V.ref p.1)] from rfl]
      try dsimp only [cxOf, Cx.nox]
      tm_at "go"
      all_goals first
        | exact kq _ _ (by tm_at "same") (by tm_at "non") (by assumption)
        | exact absurd ‹Str.ofString "InvalidNumber" = _› (by decide +kernel)
    cases hk
end
local macro_rules | `(tactic| tm_at "sp") => `(tactic| ((with_reducible refine' i_number ?b ?_); (case b => tm_at "bag"); intro _ _ _ _ _ _))

open Lend LamX NdefX SupX
theorem str_show : ∀ z ∈ codesL, (decide ((reprText z).length ≤ 5000)) = true := by decide +kernel
theorem str_ok : ∀ z ∈ codesL, (decide (z.cps.size ≤ 100000) && z.cps.toList.all fun c => decide (c < 1114112)) = true := by decide +kernel
theorem int_show : ∀ n : Fin 256, (toString ((n.val : Nat) : Int) : Str).length ≤ 5000 ∧ (((n.val : Nat) : Int).natAbs.log2 < 1920) := by decide +kernel
theorem odd_code {K : PySem.W.Frag} {H : Hp} {b : Addr} {z : Str} (h : z ∈ codesL) : Odd K H b (.str z) (.str z) := by
  have h1 := of_decide_eq_true (str_show z h)
  refine ⟨.lit (str_ok z h), by simp [dep], 5000, .inl ⟨_, .str z (Nat.le_trans h1 (by decide)), h1⟩, Nat.le_refl _⟩
theorem odd_small {K : PySem.W.Frag} {H : Hp} {b : Addr} {i : Int} (h0 : 0 ≤ i) (h1 : i < 256) : Odd K H b (.int i) (.int i) := by
  obtain ⟨n, rfl⟩ : ∃ n : Nat, i = (n : Int) := ⟨i.toNat, by omega⟩
  have q := int_show ⟨n, by omega⟩
  exact ⟨.int _, by simp [dep], 5000, .inl ⟨_, .int _ q.2, q.1⟩, Nat.le_refl _⟩
section
variable {K : PySem.W.Frag} {H : Hp} {b : Addr} {w r s p : V} {dw dr ds dp : PyData} {DN DI : Addr}
theorem cellE_cases (P : Option (EKind × List V) → Prop) (KN KI : EKind) (h0 : isCode dw = false → P (some (KN, [w]))) (h1 : isCode dw = true → numD 0 3 dr = false → P (some (KI, [r]))) (h2 : numD 0 3 ds = false → P (some (KI, [s]))) (h3 : numD 0 255 dp = false → P (some (KI, [p]))) (h4 : P none) : P (cellE KN KI w r s p dw dr ds dp) := by
  unfold cellE
  split
  · exact h0 ‹_›
  · split
    · exact h1 (by simpa using ‹¬ isCode dw = false›) ‹_›
    · split
      · exact h2 ‹_›
      · split
        · exact h3 ‹_›
        · exact h4
theorem cellE_shown {KN KI : EKind} (h0 : Odd K H b w dw) (h1 : Odd K H b r dr) (h2 : Odd K H b s ds) (h3 : Odd K H b p dp) : Shown K H (cellE KN KI w r s p dw dr ds dp) := by
  have one : ∀ {e : EKind} {x : V} {d : PyData}, Odd K H b x d → Shown K H (some (e, [x])) := fun o e xs h x hx => by
    cases h
    rw [List.mem_singleton.mp hx]
    exact o.shows
  exact cellE_cases (Shown K H) KN KI (fun _ => one h0) (fun _ _ => one h1) (fun _ => one h2) (fun _ => one h3) (fun e xs h => nomatch h)
theorem cellE_in : ∀ e xs, cellE (kN DN) (kI DI) w r s p dw dr ds dp = some (e, xs) → e ∈ [kN DN, kI DI] ∧ xs.length = e.attrs.length :=
  cellE_cases (fun o => ∀ e xs, o = some (e, xs) → e ∈ [kN DN, kI DI] ∧ xs.length = e.attrs.length) (kN DN) (kI DI) (fun _ e xs h => by cases h; exact ⟨.head _, rfl⟩) (fun _ _ e xs h => by cases h; exact ⟨.tail _ (.head _), rfl⟩) (fun _ e xs h => by cases h; exact ⟨.tail _ (.head _), rfl⟩) (fun _ e xs h => by cases h; exact ⟨.tail _ (.head _), rfl⟩) (fun e xs h => nomatch h)
theorem cellE_wy : wy (cellE (kN DN) (kI DI) w r s p dw dr ds dp) = wy (cellE (kN 0) (kI 0) w r s p dw dr ds dp) := by
  unfold cellE
  split
  · rfl
  · split
    · rfl
    · split
      · rfl
      · split
        · rfl
        · rfl
theorem whyD1 {c : Str} {x : V} {d : PyData} (hc : StrK c) (h : Odd K H b x d) : ∃ D, WhyD K H b (some (c, [x])) D ∧ dep D ≤ 3 := ⟨_, .er hc (Nat.le_of_ble_eq_true rfl) (.cons h.dt .nil), by
  have q := h.deep
  simp only [dep, depA]
  omega⟩
theorem strK_lit {z : Str} (h : (decide (z.cps.size ≤ 100000) && z.cps.toList.all fun c => decide (c < 1114112)) = true) : StrK z := by
  rw [Bool.and_eq_true] at h
  exact ⟨of_decide_eq_true h.1, fun c m => of_decide_eq_true (List.all_eq_true.mp h.2 c m)⟩
theorem cellE_whyD (h0 : Odd K H b w dw) (h1 : Odd K H b r dr) (h2 : Odd K H b s ds) (h3 : Odd K H b p dp) : ∃ D, WhyD K H b (wy (cellE (kN 0) (kI 0) w r s p dw dr ds dp)) D ∧ dep D ≤ 3 :=
  cellE_cases (fun o => ∃ D, WhyD K H b (wy o) D ∧ dep D ≤ 3) (kN 0) (kI 0) (fun _ => whyD1 (c := "InvalidName") (strK_lit (by decide +kernel)) h0) (fun _ _ => whyD1 (c := "InvalidNumber") (strK_lit (by decide +kernel)) h1) (fun _ => whyD1 (c := "InvalidNumber") (strK_lit (by decide +kernel)) h2) (fun _ => whyD1 (c := "InvalidNumber") (strK_lit (by decide +kernel)) h3) ⟨_, .ok, by decide +kernel⟩
end

open Lend LamX NdefX SupX
theorem growS {H H1 H2 : Hp} (s : Same H1 H2) (g : Go.Grow H H1) : Go.Grow H H2 := g.trans (Go.Grow.same s)
theorem growX {H H1 H2 : Hp} (s : Go.Grow H1 H2) (g : Go.Grow H H1) : Go.Grow H H2 := g.trans s
theorem growR {H : Hp} : Go.Grow H H := Go.Grow.same (Same.refl _)
local macro_rules | `(tactic| tm_at "grow") => `(tactic| first | exact growR | (refine' growS (by assumption) ?z0; (case z0 => tm_at "grow")) | (refine' growX (by assumption) ?z0; (case z0 => tm_at "grow")) | fail)
theorem four {xs : List V} {b : Addr} {K : PySem.W.Frag} {H : Hp} (k : Int) (h0 : 0 ≤ k) (h1 : k < 4) : k = 0 ∨ k = 1 ∨ k = 2 ∨ k = 3 := by omega
def AppC (sp : Sp) (vs dvs : List V) (E : XK) (H : Hp) (Q : VK) : Prop := sp (vs ++ dvs) H Q E
theorem callD {sp : Sp} {dvs : List V} {E : XK} {t : TA} {σ : L2.St} {H : Hp} {Q : VK} (q : t σ H fun vs H1 => AppC sp vs dvs E H1 Q) : tCall sp dvs E t σ H Q := q
theorem okD {sp : Sp} {vs dvs ws : List V} {E : XK} {H : Hp} {Q : VK} (e : vs ++ dvs = ws) (q : sp ws H Q E) : AppC sp vs dvs E H Q := by
  subst e
  exact q
local macro_rules | `(tactic| tm_at "sp") => `(tactic| first
  | with_reducible refine callD ?_
  | ((with_reducible refine' okD ?e ?_); (case e => (first | (simp only [List.drop_succ_cons, List.drop_zero, List.drop_nil, List.cons_append, List.nil_append, List.append_nil]; (first | done | rfl)) | rfl))))
section
variable {P : Program} {w : World} {K : PySem.W.Frag} {mg : Str → Option Value} {base : Heap} {Z : Fs}
theorem i_cell_due {H : Hp} {Q : VK} {E : XK} {p b : Addr} {x r s q : V} {dw dr ds dp : PyData} (hp : SqL K H p [x, r, s, q]) (hx : Dt K H b x dw) (h1 : Dt K H b r dr) (h2 : Dt K H b s ds) (h3 : Dt K H b q dp) (k : ∀ (H' : Hp) (t : Addr), Same H H' → H t = none → WhyAt (wy (cellE (kN 0) (kI 0) x r s q dw dr ds dp)) H' t → Q (.ref t) H') : sp_law_cell_due K [.ref p] H Q E := ⟨p, b, x, r, s, q, dw, dr, ds, dp, rfl, hp, hx, h1, h2, h3, k⟩
theorem Dt.flat {H H' : Hp} {b : Addr} {v : V} {d : PyData} (h : Dt K H b v d) (z : dep d = 0) : Dt K H' b v d := by
  cases h with
  | non => exact .non
  | bl k => exact .bl k
  | int i => exact .int i
  | str h => exact .str h
  | lst _ _ _ _ => simp [dep] at z
  | tup _ _ _ _ => simp [dep] at z
theorem DtA.flat {H H' : Hp} {b : Addr} : ∀ {vs : List V} {ds : List PyData}, DtA K H b vs ds → depA ds = 0 → DtA K H' b vs ds
  | _, _, .nil, _ => .nil
  | _, _, .cons h r, z => .cons (Dt.flat h (by simp [depA] at z; omega)) (DtA.flat r (by simp [depA] at z; omega))
structure OddP (K : PySem.W.Frag) (H : Hp) (b p : Addr) (v : V) (d : PyData) : Prop where
  odd : Odd K H b v d
  nr : ∀ a, v = .ref a → a ≠ p
/-- another list is written -/
theorem OddP.put {H H' : Hp} {b p : Addr} {v : V} {d : PyData} (h : OddP K H b p v d) (s : Go.But p H H') : OddP K H' b p v d := by
  refine ⟨⟨?_, h.odd.deep, ?_⟩, h.nr⟩
  · have z := h.odd.deep
    have nr := h.nr
    cases h.odd.dt with
    | non => exact .non
    | bl k => exact .bl k
    | int i => exact .int i
    | str hz => exact .str hz
    | lst h1 n l r => exact .lst (Go.lB s (nr _ rfl) h1) n l (DtA.flat r (by simp [dep] at z; omega))
    | tup h1 n l r => exact .tup (Go.tB s (nr _ rfl) h1) n l (DtA.flat r (by simp [dep] at z; omega))
  · obtain ⟨c, h1, h2⟩ := h.odd.shows
    refine ⟨c, ?_, h2⟩
    rcases h1 with h1 | ⟨a, xs, ts, rfl, h1, f, l⟩
    · exact .inl h1
    · rcases h1 with h1 | h1
      · exact .inr ⟨a, xs, ts, rfl, .inl (Go.tB s (h.nr _ rfl) h1), f, l⟩
      · exact .inr ⟨a, xs, ts, rfl, .inr (Go.lB s (h.nr _ rfl) h1), f, l⟩
theorem OddP.but {H H' : Hp} {b p : Addr} {v : V} {d : PyData} (s : Go.But b H H') (h : OddP K H b p v d) : OddP K H' b p v d := ⟨h.odd.but s, h.nr⟩
theorem OddP.same {H H' : Hp} {b p : Addr} {v : V} {d : PyData} (s : Same H H') (h : OddP K H b p v d) : OddP K H' b p v d := ⟨h.odd.same s, h.nr⟩
theorem OddP.str {H : Hp} {b p : Addr} {z : Str} (h : z ∈ codesL) : OddP K H b p (.str z) (.str z) := ⟨odd_code h, fun a e => nomatch e⟩
theorem OddP.int {H : Hp} {b p : Addr} {i : Int} (h0 : 0 ≤ i) (h1 : i < 256) : OddP K H b p (.int i) (.int i) := ⟨odd_small h0 h1, fun a e => nomatch e⟩
local macro_rules | `(tactic| tm_at "oddp") => `(tactic| first | assumption | (refine' OddP.put ?z0 (by assumption); (case z0 => tm_at "oddp")) | (refine' OddP.same (by assumption) ?z0; (case z0 => tm_at "oddp")) | (refine' OddP.but (by assumption) ?z0; (case z0 => tm_at "oddp")) | fail)
/-- the four values at p -/
def V4 (K : PySem.W.Frag) (H : Hp) (b p : Addr) : Prop := ∃ (x r s q : V) (dw dr ds dp : PyData), H p = some (.lst [x, r, s, q]) ∧ OddP K H b p x dw ∧ OddP K H b p r dr ∧ OddP K H b p s ds ∧ OddP K H b p q dp
theorem V4.but {H H' : Hp} {b p : Addr} (s : Go.But b H H') (n : p ≠ b) (h : V4 K H b p) : V4 K H' b p := by
  obtain ⟨x, r, z, q, dw, dr, ds, dp, hp, o0, o1, o2, o3⟩ := h
  exact ⟨x, r, z, q, dw, dr, ds, dp, s _ _ n hp, o0.but s, o1.but s, o2.but s, o3.but s⟩
theorem V4.same {H H' : Hp} {b p : Addr} (s : Same H H') (h : V4 K H b p) : V4 K H' b p := by
  obtain ⟨x, r, z, q, dw, dr, ds, dp, hp, o0, o1, o2, o3⟩ := h
  exact ⟨x, r, z, q, dw, dr, ds, dp, s _ _ hp, o0.same s, o1.same s, o2.same s, o3.same s⟩
theorem set4 {Q : Hp → Prop} {G : Hp} {b p : Addr} {k : Int} {v : V} {d : PyData} (h : V4 K G b p) (k0 : 0 ≤ k) (k1 : k < 4) (o : OddP K G b p v d) (q : ∀ H2, Go.But p G H2 → V4 K H2 b p → Q H2) : rSetL (.ref p) (.int k) v G Q := by
  obtain ⟨x, r, z, q', dw, dr, ds, dp, hp, o0, o1, o2, o3⟩ := h
  obtain rfl | rfl | rfl | rfl : k = 0 ∨ k = 1 ∨ k = 2 ∨ k = 3 := by omega
  · exact Go.setL hp rfl rfl (Go.wr fun H2 bu e2 => q H2 bu ⟨_, _, _, _, _, _, _, _, e2, o.put bu, o1.put bu, o2.put bu, o3.put bu⟩)
  · exact Go.setL hp rfl rfl (Go.wr fun H2 bu e2 => q H2 bu ⟨_, _, _, _, _, _, _, _, e2, o0.put bu, o.put bu, o2.put bu, o3.put bu⟩)
  · exact Go.setL hp rfl rfl (Go.wr fun H2 bu e2 => q H2 bu ⟨_, _, _, _, _, _, _, _, e2, o0.put bu, o1.put bu, o.put bu, o3.put bu⟩)
  · exact Go.setL hp rfl rfl (Go.wr fun H2 bu e2 => q H2 bu ⟨_, _, _, _, _, _, _, _, e2, o0.put bu, o1.put bu, o2.put bu, o.put bu⟩)
theorem V4.at {H : Hp} {b p : Addr} (h : V4 K H b p) : ∃ xs, H p = some (.lst xs) := by
  obtain ⟨x, r, z, q, dw, dr, ds, dp, hp, _⟩ := h
  exact ⟨_, hp⟩
theorem tabL {T : List (Addr × Str)} {H H' : Hp} {p : Addr} (h : ∃ xs, H p = some (.lst xs)) (s : Go.But p H H') (t : Tabs T H) : Tabs T H' := fun y hy => by
  obtain ⟨xs, h1⟩ := h
  obtain ⟨ps, e1, e2, e3⟩ := t y hy
  have n1 : y.1 ≠ p := fun z => by
    rw [z, h1] at e1
    cases e1
  refine ⟨ps, s _ _ n1 e1, e2, fun pos cv hc => ?_⟩
  obtain ⟨c, q1, q2⟩ := e3 pos cv hc
  refine ⟨c, q1, s _ _ (fun z => ?_) q2⟩
  rw [z, h1] at q2
  have z' := Option.some.inj q2
  unfold CodeO at z'
  cases z'
/-- all lists but the bag stay -/
def KeepL (b : Addr) (H H' : Hp) : Prop := ∀ a xs, a ≠ b → H a = some (.lst xs) → H' a = some (.lst xs)
def sp_law_wrong_so (K : PySem.W.Frag) (TT : List (Addr × Str)) : Sp := fun vs H Q _ => ∃ (b l : Addr) (z : Str) (i j k : Int), vs = [.ref b, .str z, .int i, .int j, .int k] ∧ Bag H b l ∧ Tabs TT H ∧ z ∈ codesL ∧ 0 ≤ i ∧ i < 4 ∧ 0 ≤ j ∧ j < 4 ∧ 0 ≤ k ∧ k < 256 ∧ ∀ H' : Hp, Bag H' b l → Tabs TT H' → KeepL b H H' → Q (.bl true) H'
structure Lg (P : Program) (K : PySem.W.Frag) (mg : Str → Option Value) (DN DI f0 f1 : Addr) (fd0 fd1 : FuncData) : Prop where
  PS : ProgS P FL
  N : EC K mg "InvalidName" "InvalidName.__init__" s_E_InvalidName (kN DN) f0 fd0
  I : EC K mg "InvalidNumber" "InvalidNumber.__init__" s_E_InvalidNumber (kI DI) f1 fd1
theorem ok_whys {DN DI f0 f1 : Addr} {fd0 fd1 : FuncData} (T : Txt K w mg Z) (L : Lg P K mg DN DI f0 f1 fd0 fd1) : FnOk P w K mg base CX0 7 Z.a_law_whys Z.d_law_whys ["_law_asks"] (sp_law_whys P w K mg base [kN DN, kI DI] 4) := by
  have EO : ∀ e ∈ [kN DN, kI DI], KindOk K mg e := memc L.N.ok (memc L.I.ok mem0)
  have ne0 : ∀ e ∈ [kN DN, kI DI], e.code ≠ "" := memc (show ("InvalidName" : Str) ≠ "" by decide +kernel) (memc (show ("InvalidNumber" : Str) ≠ "" by decide +kernel) mem0)
  obtain ⟨cI, cM, mI, mM, _⟩ := L.N.ok.exm
  exact ok_law_whys (P := P) (base := base) (k := 4) T (by omega) EO ne0 mI mM (ok_law_field T L.N.ok L.I.ok)
theorem ok_law_wrong_so {DN DI f0 f1 cc pp : Addr} {fd0 fd1 : FuncData} {TT : List (Addr × Str)} (T : Txt K w mg Z) (L : Lg P K mg DN DI f0 f1 fd0 fd1)
    (hc : Z.d_law_wrong_so.code = .ref cc) (TB_law_wrong_so : TabB base mg cc pp) (hm_law_wrong_so : (pp, QL "_law_wrong_so") ∈ TT) (hu_law_wrong_so : ∀ p ∈ TT, p.1 = pp → p.2 = QL "_law_wrong_so") :
    FnOk P w K mg base CX0 8 Z.a_law_wrong_so Z.d_law_wrong_so ["_law_bag_here", "_law_own", "_law_a", "_law_b", "_law_c"] (sp_law_wrong_so K TT) := by
  have G_cell_of := ok_cell_of (P := P) (base := base) T L.PS L.N L.I
  have G_parted := ok_parted (P := P) (base := base) T L.PS L.I
  have G_law_draw := ok_law_draw (P := P) (base := base) T
  have G_law_odd := ok_law_odd (P := P) (base := base) T
  have G_law_within := ok_law_within (P := P) (base := base) T
  have G_law_cell_due := ok_law_cell_due (P := P) (base := base) T
  have G_law_whys := ok_whys (P := P) (w := w) (base := base) T L
  have G_law_same := ok_law_same (P := P) (base := base) T 4
  obtain ⟨oc, od, kV, doc, pm, an, cdv, ct, osl, e, lk, hcd⟩ := T.F_law_wrong_so.ex
  rw [e] at lk hc ⊢
  obtain rfl : cdv = .ref cc := hc
  refine fn_of lk hcd sc_law_wrong_so (fun vs H Q E h => ?_) (fun A outer s H vs Q E hr h => ?_)
  · obtain ⟨b, l, z, i, j, k, rfl, _⟩ := h
    rfl
  · obtain ⟨b, l, z, i, j, k, rfl, hB, hT, hz, i0, i1, j0, j1, k0, k1, q⟩ := h
    refine ⟨_, PSs.nox (pss_cons (ps_asg (pe_tup (pa_cons (pe_lst (pa_cons (pv 1) (pa_cons (pv 2) (pa_cons (pv 3) (pa_cons (pv 4) pa_nil))))) (pa_cons (pe_call G_law_draw (hr.mono (by omega)) (by rfl) T.m_law_draw T.F_law_draw.kp T.b_law_draw .nil pass0 (pa_cons (pv 0) (pa_cons pe_int pa_nil))) pa_nil))) (pg_tup (by rfl) (pgs_cons (pg_name (i := 5) sc_law_wrong_so.nd rfl (Or.inr rfl)) (pgs_cons (pg_name (i := 6) sc_law_wrong_so.nd rfl (Or.inl rfl)) pgs_nil))))
      (C8.pss_cut (ps_asg (pe_call G_law_odd (hr.mono (by omega)) (by rfl) T.m_law_odd T.F_law_odd.kp T.b_law_odd .nil pass0 (pa_cons (pv 0) (pa_cons (pe_lst (pa_cons pe_int (pa_cons pe_int (pa_cons pe_int (pa_cons pe_str (pa_cons pe_str (pa_cons (pe_tup (pa_cons pe_str pa_nil)) pa_nil))))))) pa_nil))) (pg_sub (pv 5) (pv 6) set_list))
      (C8.pss_cut (ps_if (pt_cmpR op_eq (pe_call G_law_draw (hr.mono (by omega)) (by rfl) T.m_law_draw T.F_law_draw.kp T.b_law_draw .nil pass0 (pa_cons (pv 0) (pa_cons pe_int pa_nil))) pe_int (nomark _)) (pss_one (ps_asg (pe_call G_law_odd (hr.mono (by omega)) (by rfl) T.m_law_odd T.F_law_odd.kp T.b_law_odd .nil pass0 (pa_cons (pv 0) (pa_cons (pe_lst (pa_cons pe_str (pa_cons pe_int (pa_cons pe_int pa_nil)))) pa_nil))) (pg_sub (pv 5) (pe_call G_law_draw (hr.mono (by omega)) (by rfl) T.m_law_draw T.F_law_draw.kp T.b_law_draw .nil pass0 (pa_cons (pv 0) (pa_cons pe_int pa_nil))) set_list))) pss_nil)
      (pss_cons (ps_set (i := 7) sc_law_wrong_so.nd rfl (Or.inl rfl) (pe_call G_law_cell_due (hr.mono (by omega)) (by rfl) T.m_law_cell_due T.F_law_cell_due.kp T.b_law_cell_due .nil pass0 (pa_cons (pv 5) pa_nil)))
      (pss_cons (ps_set (i := 8) sc_law_wrong_so.nd rfl (Or.inl rfl) (pe_lst (pa_cons (Lend.pe_lam0 (T := TT) TB_law_wrong_so rfl hm_law_wrong_so hu_law_wrong_so (LendN.free_ok (by decide +kernel)) rfl) (pa_cons (Lend.pe_lam1 (T := TT) TB_law_wrong_so rfl hm_law_wrong_so hu_law_wrong_so (LendN.free_ok (by decide +kernel)) rfl rfl pe_int) pa_nil))))
      (C8.pss_cut (ps_if (pt_not (pt_val (pe_call G_law_same (hr.mono (by omega)) (by rfl) T.m_law_same T.F_law_same.kp T.b_law_same .nil pass0 (pa_cons (LendN.pe_callW [("_law_values", 5)] G_law_whys (hr.mono (by omega)) (by rfl) T.m_law_whys T.F_law_whys.kp T.b_law_whys .nil (pa_cons (pv 8) pa_nil)) (pa_cons (pe_lst (pa_cons (pv 7) (pa_cons (pv 7) pa_nil))) pa_nil))))) (pss_one (ps_ret pe_bl)) pss_nil)
      (pss_cons (ps_set (i := 9) sc_law_wrong_so.nd rfl (Or.inr rfl) (pe_call G_law_odd (hr.mono (by omega)) (by rfl) T.m_law_odd T.F_law_odd.kp T.b_law_odd .nil pass0 (pa_cons (pv 0) (pa_cons (pe_lst (pa_cons pe_int (pa_cons pe_str (pa_cons (pe_tup (pa_cons pe_int pa_nil)) pa_nil)))) pa_nil))))
      (pss_cons (ps_if (pt_not (pt_val (pe_call G_law_same (hr.mono (by omega)) (by rfl) T.m_law_same T.F_law_same.kp T.b_law_same .nil pass0 (pa_cons (LendN.pe_callW [("_law_bad", 9)] G_law_whys (hr.mono (by omega)) (by rfl) T.m_law_whys T.F_law_whys.kp T.b_law_whys .nil (pa_cons (pe_lst (pa_cons (Lend.pe_lam0 (T := TT) TB_law_wrong_so rfl hm_law_wrong_so hu_law_wrong_so (LendN.free_ok (by decide +kernel)) rfl) pa_nil)) pa_nil)) (pa_cons (pe_lst (pa_cons (pe_ifExp (pt_not (pt_val (pe_call G_law_within (hr.mono (by omega)) (by rfl) T.m_law_within T.F_law_within.kp T.b_law_within .nil pass0 (pa_cons (pv 9) (pa_cons pe_int (pa_cons pe_int pa_nil)))))) (pe_tup (pa_cons pe_str (pa_cons (pe_tup (pa_cons (pv 9) pa_nil)) pa_nil))) (pe_tup (pa_cons pe_str (pa_cons pe_non pa_nil)))) pa_nil)) pa_nil))))) (pss_one (ps_ret pe_bl)) pss_nil)
      (pss_one (ps_ret pe_bl)))))))))), ?_⟩
    rw [show L2.start N_law_wrong_so [V.ref b, V.str z, V.int i, V.int j, V.int k] = [some (V.ref b), some (V.str z), some (V.int i), some (V.int j), some (V.int k), none, none, none, none, none] from rfl]
    try dsimp only [cxOf, Cx.nox]
    tm_at "go"
    rename_i p G1 m1 s1 e1 pb pl G2 sp s2 B2 sp0 sp1 t0 G3 m3 s3 e3 tb tl
    have hp3 : G3 p = some (.lst [.str z, .int i, .int j, .int k]) := by tm_at "hpO"
    have T3 : Tabs TT G3 := by tm_at "tabs"
    have B3 : Bag G3 b l := by tm_at "bag"
    have K3 : KeepL b H G3 := fun a xs n h => by tm_at "hpO"
    have np : ∀ a xs, H a = some (.lst xs) → a ≠ p := fun a xs h => ne_of_none h m1
    clear e3 s3 m3 s2 e1 s1 B2
    refine Go.cut (fun σ' H' => σ' = [some (.ref b), some (.str z), some (.int i), some (.int j), some (.int k), some (.ref p), some (.int sp), none, none, none] ∧ V4 K H' b p ∧ Bag H' b l ∧ Tabs TT H' ∧ KeepL b H H') ?_ ?_
    · tm_at "go"
      rename_i th G4 m4 s4 e4 _ _ ms G5 m5 s5 e5 _ _ G6 v d s6 B6 O6 R6
      have h5 : G5 p = some (.lst [.str z, .int i, .int j, .int k]) := s5 _ _ (s4 _ _ hp3)
      have ptn : p ≠ th := ne_of_none hp3 m4
      have nr : ∀ a, v = .ref a → a ≠ p := fun a ea ez => by
        rcases R6 _ ea with h | h
        · rw [ez, h5] at h
          cases h
        · rw [ez] at h
          simp at h
          exact ptn h
      have V3 : V4 K G3 b p := ⟨_, _, _, _, _, _, _, _, hp3, OddP.str hz, OddP.int i0 (by omega), OddP.int j0 (by omega), OddP.int k0 k1⟩
      have B5 : Bag G5 b l := (B3.same s4).same s5
      have T6 : Tabs TT G6 := tabB B5 s6 (tabS s5 (tabS s4 T3))
      exact set4 (((V3.same s4).same s5).but s6 pb) sp0 sp1 ⟨O6, nr⟩ fun H2 bu v4 => ⟨rfl, v4, B6.but bu pb.symm pl.symm, tabL ⟨_, s6 _ _ pb h5⟩ bu T6, fun a xs n h => bu _ _ (np a xs h) (s6 _ _ n (s5 _ _ (s4 _ _ (K3 a xs n h))))⟩
    · rintro σ' G1 ⟨rfl, V1, B1, T1, K1⟩
      refine Go.cut (fun σ' H' => σ' = [some (.ref b), some (.str z), some (.int i), some (.int j), some (.int k), some (.ref p), some (.int sp), none, none, none] ∧ V4 K H' b p ∧ Bag H' b l ∧ Tabs TT H' ∧ KeepL b H H') ?_ ?_
      · clear B3 T3 K3 hp3
        tm_at "go"
        · rename_i G2 u2 s2 B2 u0 u1 eu ls Gl ml sl el lsb lsl Go v d so Bo Oo Ro Gx kx sx Bx kx0 kx1
          have Vl : V4 K Gl b p := (V1.but s2 pb).same sl
          obtain ⟨yl, hpl⟩ := Vl.at
          have nr : ∀ a, v = .ref a → a ≠ p := fun a ea ez => by
            rcases Ro _ ea with h | h
            · rw [ez, hpl] at h
              cases h
            · simp at h
          have Tx : Tabs TT Gx := tabB Bo sx (tabB (B2.same sl) so (tabS sl (tabB B1 s2 T1)))
          have ox : OddP K Gx b p v d := OddP.but sx ⟨Oo, nr⟩
          have Vx : V4 K Gx b p := (Vl.but so pb).but sx pb
          exact set4 Vx kx0 kx1 ox fun H2 bu v4 => ⟨rfl, v4, Bx.but bu pb.symm pl.symm, tabL Vx.at bu Tx, fun a xs n h => bu _ _ (np a xs h) (sx _ _ n (so _ _ n (sl _ _ (s2 _ _ n (K1 a xs n h)))))⟩
        · rename_i G2 u2 s2 B2 u0 u1 eu
          exact ⟨V1.but s2 pb, B2, tabB B1 s2 T1, fun a xs n h => s2 _ _ n (K1 a xs n h)⟩
      · rintro σ' G2 ⟨rfl, ⟨x, r, s', q', dw, dr, ds, dp, hp2, o0, o1, o2, o3⟩, B2, T2, K2⟩
        clear B3 T3 K3 hp3 B1 T1 K1
        tm_at "go"
        refine i_cell_due (SqL.of hp2) o0.odd.dt o1.odd.dt o2.odd.dt o3.odd.dt fun G3' td s3' nd wd => ?_
        tm_at "go"
        rename_i pasks Gm mm sm em mb ml
        refine Go.cut (fun σ' H' => σ' = [some (.ref b), some (.str z), some (.int i), some (.int j), some (.int k), some (.ref p), some (.int sp), some (.ref td), some (.ref pasks), none] ∧ Bag H' b l ∧ Tabs TT H' ∧ KeepL b H H') ?_ ?_
        · have hpG : Gm p = some (.lst [x, r, s', q']) := by tm_at "hpO"
          have grow : Go.Grow G2 Gm := by tm_at "grow"
          have o0' : OddP K Gm b p x dw := ⟨o0.odd.grow grow, o0.nr⟩
          have o1' : OddP K Gm b p r dr := ⟨o1.odd.grow grow, o1.nr⟩
          have o2' : OddP K Gm b p s' ds := ⟨o2.odd.grow grow, o2.nr⟩
          have o3' : OddP K Gm b p q' dp := ⟨o3.odd.grow grow, o3.nr⟩
          tm_at "go"
          refine whysW [wy (cellE (kN 0) (kI 0) x r s' q' dw dr ds dp), wy (cellE (kN 0) (kI 0) x r s' q' dw dr ds dp)] (by tm_at "hpL") rfl (Nat.le_of_ble_eq_true rfl) ?_ ?_ ?_
          · intro y m
            rcases List.mem_cons.mp m with rfl | m
            · exact ⟨rfl, ⟨_, rfl⟩, (show List.lookup _ (defScope s_law_wrong_so).names = some .cell by decide +kernel), rfl⟩
            cases m
          · intro cs C off n x' hx
            match n, hx with
            | 0, hx =>
              cases hx
              refine' (ask_g0 (EK := [kN DN, kI DI]) (k := 3) (N := ["_law_values"]) (fr := ["_law_values"]) (ws := [.ref p]) (cellE (kN DN) (kI DI) x r s' q' dw dr ds dp) ?S0 C off (.cons (C.cap (.head _) rfl) .nil) ?hF0 ?hC0 ?hD0 ?hb00 ?body0 cellE_in ?hb0).to cellE_wy
              (case hF0 => tm_at "hpO")
              (case hC0 => tm_at "hpO")
              (case hD0 => tm_at "defs")
              (case hb00 => rfl)
              (case S0 => exact nscope_by (by decide +kernel))
              (case body0 => exact fun A outer s H E hr => (pe_call G_cell_of (hr.mono (by omega)) (by rfl) T.m_cell_of T.F_cell_of.kp (Classical.choose_spec T.d_cell_of_4).2 (Classical.choose_spec T.d_cell_of_4).1 LendN.passL (pa_cons (pe_ix (ix_list : IxR _ (rIxL K)) (pv 0) pe_int (fun _ _ => rfl)) (pa_cons (pe_ix (ix_list : IxR _ (rIxL K)) (pv 0) pe_int (fun _ _ => rfl)) (pa_cons (pe_ix (ix_list : IxR _ (rIxL K)) (pv 0) pe_int (fun _ _ => rfl)) (pa_cons (pe_ix (ix_list : IxR _ (rIxL K)) (pv 0) pe_int (fun _ _ => rfl)) pa_nil))))))
              (case hb0 =>
                intro Gc Qc Ec sc en
                have hpc : Gc p = some (.lst [x, r, s', q']) := sc _ _ hpG
                have c0 := o0'.same sc
                have c1 := o1'.same sc
                have c2 := o2'.same sc
                have c3 := o3'.same sc
                tm_at "go"
                exact ⟨x, r, s', q', b, dw, dr, ds, dp, rfl, c0.odd.dt, c1.odd.dt, c2.odd.dt, c3.odd.dt, cellE_shown c0.odd c1.odd c2.odd c3.odd, fun e xs h d H' ea => by rw [h] at en; exact en d H' ea, fun h n H' _ s => by rw [h] at en; exact en _ _ s⟩)
            | 1, hx =>
              cases hx
              refine' (ask_g1 (EK := [kN DN, kI DI]) (k := 3) (N := ["_law_a", "_law_values"]) (fr := ["_law_values"]) (ws := [.ref p]) (cellE (kN DN) (kI DI) x r s' q' dw dr ds dp) ?S1 C off (.cons (C.cap (.head _) rfl) .nil) ?hF1 ?hC1 ?hD1 ?hb01 ?body1 cellE_in ?hb1).to cellE_wy
              (case hF1 => tm_at "hpO")
              (case hC1 => tm_at "hpO")
              (case hD1 => tm_at "defs")
              (case hb01 => exact ⟨_, rfl, fun _ => rfl⟩)
              (case S1 => exact nscope_by (by decide +kernel))
              (case body1 => exact fun A outer s H E hr => (pe_callN0 G_cell_of (hr.mono (by omega)) (by rfl) T.m_cell_of T.F_cell_of.kp (Classical.choose_spec T.d_cell_of_0_r_s_part_word) LendN.passL (pk_cons (pe_ix (ix_list : IxR _ (rIxL K)) (pv 1) pe_int (fun _ _ => rfl)) (pk_cons (pe_ix (ix_list : IxR _ (rIxL K)) (pv 1) pe_int (fun _ _ => rfl)) (pk_cons (pe_ix (ix_list : IxR _ (rIxL K)) (pv 1) pe_int (fun _ _ => rfl)) (pk_cons (pe_ix (ix_list : IxR _ (rIxL K)) (pv 1) pe_int (fun _ _ => rfl)) pk_nil))))))
              (case hb1 =>
                intro Gc Qc Ec sc en
                have hpc : Gc p = some (.lst [x, r, s', q']) := sc _ _ hpG
                have c0 := o0'.same sc
                have c1 := o1'.same sc
                have c2 := o2'.same sc
                have c3 := o3'.same sc
                tm_at "go"
                exact ⟨x, r, s', q', b, dw, dr, ds, dp, rfl, c0.odd.dt, c1.odd.dt, c2.odd.dt, c3.odd.dt, cellE_shown c0.odd c1.odd c2.odd c3.odd, fun e xs h d H' ea => by rw [h] at en; exact en d H' ea, fun h n H' _ s => by rw [h] at en; exact en _ _ s⟩)
            | n + 2, hx => cases hx
          · intro G t ts sG nt et hp
            cases hp with | @cons t0 _ _ _ h0 hp => cases hp with | @cons t1 _ _ _ h1 hp =>
            cases hp
            have c0 := o0'.same sG
            have c1 := o1'.same sG
            have c2 := o2'.same sG
            have c3 := o3'.same sG
            have BG : Bag G b l := by tm_at "bag"
            have TG : Tabs TT G := by tm_at "tabs"
            have wG : WhyAt (wy (cellE (kN 0) (kI 0) x r s' q' dw dr ds dp)) G td := wd.tups fun a ys e => by tm_at "hpO"
            have KG : KeepL b H G := fun a xs n h => by
              have h2 := K2 a xs n h
              tm_at "hpO"
            have ntb : t ≠ b := Bag.ne (by tm_at "bag") nt
            obtain ⟨D, hD, dD⟩ := cellE_whyD c0.odd c1.odd c2.odd c3.odd
            clear o0 o1 o2 o3 o0' o1' o2' o3' wd grow hpG em
            tm_at "go"
            rename_i pd G5 n5 s5 e5 ndb ndl
            refine i_sameB (d := .list [D, D]) (by tm_at "bag") (.lst (by tm_at "hpL") ntb (Nat.le_of_ble_eq_true rfl) (.cons ((h0.dt BG hD).same s5) (.cons ((h1.dt BG hD).same s5) .nil))) (.lst (by tm_at "hpL") ndb (Nat.le_of_ble_eq_true rfl) (.cons ((wG.dt BG hD).same s5) (.cons ((wG.dt BG hD).same s5) .nil))) (by simp only [dep, depA]; omega) fun G6 s6 => ?_
            tm_at "go"
            exact ⟨by tm_at "bag", by tm_at "tabs", fun a xs n h => by have h2 := KG a xs n h; tm_at "hpO"⟩
        · rintro σ' G1 ⟨rfl, B1, T1, K1⟩
          clear K2 T2 B2 s3' nd
          tm_at "go"
          rename_i _ _ _ _ _ _ _ _ _ _ _ _ _ _ Gb v d so Bo Oo Ro f c' dV doc pm' ct' Gl gl nf tl hF hC hD pasks2 Gm mm sm em mb ml
          have Om : Odd K Gm b v d := by tm_at "odd"
          have key : ∀ {x y : Option (EKind × List V)}, x = y → wy x = wy y := fun e => by rw [e]
          refine whysW [wy (if numD 0 65535 d = true then none else some (kI DI, [v]))] (by tm_at "hpL") rfl (Nat.le_of_ble_eq_true rfl) ?_ ?_ ?_
          · intro y m
            rcases List.mem_cons.mp m with rfl | m
            · exact ⟨rfl, ⟨_, rfl⟩, (show List.lookup _ (defScope s_law_wrong_so).names = some .cell by decide +kernel), rfl⟩
            cases m
          · intro cs C off n x' hx
            match n, hx with
            | 0, hx =>
              cases hx
              refine' ask_g0 (EK := [kN DN, kI DI]) (k := 3) (N := ["_law_bad"]) (fr := ["_law_bad"]) (ws := [v]) (if numD 0 65535 d = true then none else some (kI DI, [v])) ?S2 C off (.cons (C.cap (.head _) rfl) .nil) ?hF2 ?hC2 ?hD2 ?hb02 ?body2 ?hk2 ?hb2
              (case hF2 => tm_at "hpO")
              (case hC2 => tm_at "hpO")
              (case hD2 => tm_at "defs")
              (case hb02 => rfl)
              (case S2 => exact nscope_by (by decide +kernel))
              (case body2 => exact fun A outer s H E hr => (pe_call G_parted (hr.mono (by omega)) (by rfl) T.m_parted T.F_parted.kp T.b_parted .nil LendN.passL (pa_cons (pv 0) pa_nil)))
              (case hk2 =>
                intro e xs h
                split at h
                · cases h
                · cases h
                  exact ⟨.tail _ (.head _), rfl⟩)
              (case hb2 =>
                intro Gc Qc Ec sc en
                have Oc := Om.same sc
                tm_at "go"
                refine ⟨v, b, d, rfl, Oc.dt, fun _ => Oc.shows, fun h d' H' ea => ?_, fun n H' t e n0 n1 s nt et => ?_⟩
                · rw [if_neg (by rw [h]; decide)] at en
                  exact en d' H' ea
                · rw [if_pos (by rw [e]; simp [numD, n0, n1])] at en
                  exact en _ _ s)
            | n + 1, hx => cases hx
          · intro G t ts sG nt et hp
            cases hp with | @cons t0 _ _ _ h0 hp =>
            cases hp
            have BG : Bag G b l := by tm_at "bag"
            have TG : Tabs TT G := by tm_at "tabs"
            have OG : Odd K G b v d := by tm_at "odd"
            have DG := OG.dt
            have KG : KeepL b H G := fun a xs n h => by
              have h2 := K1 a xs n h
              tm_at "hpO"
            have ntb : t ≠ b := Bag.ne (by tm_at "bag") nt
            clear em hF hC hD Om K1
            tm_at "go"
            · rename_i J1 j1 hq u J2 n2 j2 e2 ub ul pd J3 n3 j3 e3 ndb ndl
              have h0' : WhyAt none G t0 := by
                rw [if_pos hq] at h0
                exact h0
              refine i_sameB (d := .list [.tuple [.str "", .none]]) (by tm_at "bag") (.lst (by tm_at "hpL") ntb (Nat.le_of_ble_eq_true rfl) (.cons ((((h0'.dt BG .ok).same j1).same j2).same j3) .nil)) (by tm_at "dt") (by decide +kernel) fun J4 j4 => ?_
              tm_at "go"
              exact q _ (by tm_at "bag") (by tm_at "tabs") (fun a xs n h => by have h2 := KG a xs n h; tm_at "hpO")
            · rename_i J1 j1 hq u J2 n2 j2 e2 ub ul u' J3 n3 j3 e3 ub' ul' pd J4 n4 j4 e4 ndb ndl
              have h0' : WhyAt (some ("InvalidNumber", [v])) G t0 := by
                rw [if_neg (by rw [hq]; decide)] at h0
                exact h0
              refine i_sameB (d := .list [.tuple [.str "InvalidNumber", .tuple [d]]]) (by tm_at "bag") (.lst (by tm_at "hpL") ntb (Nat.le_of_ble_eq_true rfl) (.cons (((((h0'.dt BG (.er (strK_lit (by decide +kernel)) (Nat.le_of_ble_eq_true rfl) (.cons DG .nil))).same j1).same j2).same j3).same j4) .nil)) (by tm_at "dt") (by have z := OG.deep; simp only [dep, depA]; omega) fun J5 j5 => ?_
              tm_at "go"
              exact q _ (by tm_at "bag") (by tm_at "tabs") (fun a xs n h => by have h2 := KG a xs n h; tm_at "hpO")
end
local macro_rules | `(tactic| tm_at "oddp") => `(tactic| first | assumption | (refine' OddP.put ?z0 (by assumption); (case z0 => tm_at "oddp")) | (refine' OddP.same (by assumption) ?z0; (case z0 => tm_at "oddp")) | (refine' OddP.but (by assumption) ?z0; (case z0 => tm_at "oddp")) | fail)

open Lend LamX NdefX SupX
theorem codes_inj : ∀ i j : Fin 16, codesL[i.val]? = codesL[j.val]? → i = j := by decide +kernel
section
variable {P : Program} {w : World} {K : PySem.W.Frag} {mg : Str → Option Value} {base : Heap} {Z : Fs}
theorem i_cell {KN KI : EKind} {H : Hp} {Q : VK} {E : XK} {z : Str} {j : Nat} {a b c : Int} (hj : codesL[j]? = some z) (a0 : 0 ≤ a) (a1 : a ≤ 3) (b0 : 0 ≤ b) (b1 : b ≤ 3) (c0 : 0 ≤ c) (c1 : c ≤ 255) (q : ∀ H' : Hp, Same H H' → Q (.int ((j : Int) * 4096 + a * 1024 + b * 256 + c)) H') : sp_cell_of K KN KI [.str z, .int a, .int b, .int c] H Q E := by
  have hz : z ∈ codesL := List.mem_of_getElem? hj
  have hc : codesL.contains z = true := by
    rw [List.contains_iff_exists_mem_beq]
    exact ⟨z, hz, beq_self_eq_true z⟩
  have ee : cellE KN KI (.str z) (.int a) (.int b) (.int c) (.str z) (.int a) (.int b) (.int c) = none := by
    have e0 : isCode (.str z) = true := hc
    have e1 : numD 0 3 (.int a) = true := by simp [numD, a0, a1]
    have e2 : numD 0 3 (.int b) = true := by simp [numD, b0, b1]
    have e3 : numD 0 255 (.int c) = true := by simp [numD, c0, c1]
    simp [cellE, e0, e1, e2, e3]
  refine ⟨_, _, _, _, 0, .str z, .int a, .int b, .int c, rfl, .lit (str_ok z hz), .int a, .int b, .int c, ?_, ?_, fun _ n H' hn s => ?_⟩
  · rw [ee]
    exact fun e xs h => nomatch h
  · rw [ee]
    exact fun e xs h => nomatch h
  · obtain ⟨z', j', a', b', c', ez, hj', ea, eb, ec, rfl⟩ := hn.ex
    cases ez
    cases ea
    cases eb
    cases ec
    obtain rfl : j' = j := by
      obtain ⟨l1, _⟩ := List.getElem?_eq_some_iff.mp hj
      obtain ⟨l2, _⟩ := List.getElem?_eq_some_iff.mp hj'
      exact congrArg Fin.val (codes_inj ⟨j', l2⟩ ⟨j, l1⟩ (hj'.trans hj.symm))
    exact q H' s
theorem i_parted {KI : EKind} {H : Hp} {Q : VK} {E : XK} {n : Int} (n0 : 0 ≤ n) (n1 : n ≤ 65535) (q : ∀ (H' : Hp) (t : Addr), Same H H' → H t = none → H' t = some (.tup (fourV n)) → Q (.ref t) H') : sp_parted K KI [.int n] H Q E := by
  have e : numD 0 65535 (.int n) = true := by simp [numD, n0, n1]
  refine ⟨_, 0, .int n, rfl, .int n, fun z => ?_, fun z => ?_, fun m H' t em _ _ s nt et => ?_⟩
  · rw [e] at z
    cases z
  · rw [e] at z
    cases z
  · cases em
    exact q H' t s nt et
theorem oddI {H : Hp} {b : Addr} {i : Int} (h1 : i.natAbs.log2 < 1920) (h2 : (toString i : Str).length ≤ 5000) : Odd K H b (.int i) (.int i) := ⟨.int _, by simp [dep], 5000, .inl ⟨_, .int _ h1, h2⟩, Nat.le_refl _⟩
theorem dt_codes {H : Hp} {b : Addr} : ∀ l : List Str, (∀ z ∈ l, (decide (z.cps.size ≤ 100000) && z.cps.toList.all fun c => decide (c < 1114112)) = true) → DtA K H b (l.map V.str) (l.map PyData.str)
  | [], _ => .nil
  | z :: l, h => .cons (.lit (h z (.head _))) (dt_codes l fun y m => h y (.tail _ m))
def sp_law_codes_so (K : PySem.W.Frag) (TT : List (Addr × Str)) : Sp := fun vs H Q _ => ∃ (t b l : Addr), vs = [.ref t] ∧ H t = some (.lst (codesL.map V.str)) ∧ t ≠ b ∧ Bag H b l ∧ Tabs TT H ∧ ∀ H' : Hp, Q (.bl true) H'
theorem ok_law_codes_so {DN DI f0 f1 cc pp : Addr} {fd0 fd1 : FuncData} {TT : List (Addr × Str)} (T : Txt K w mg Z) (L : Lg P K mg DN DI f0 f1 fd0 fd1)
    (hc : Z.d_law_codes_so.code = .ref cc) (TB_law_codes_so : TabB base mg cc pp) (hm_law_codes_so : (pp, QL "_law_codes_so") ∈ TT) (hu_law_codes_so : ∀ p ∈ TT, p.1 = pp → p.2 = QL "_law_codes_so") :
    FnOk P w K mg base CX0 8 Z.a_law_codes_so Z.d_law_codes_so ["_law_codes_here"] (sp_law_codes_so K TT) := by
  have G_cell_of := ok_cell_of (P := P) (base := base) T L.PS L.N L.I
  have G_parted := ok_parted (P := P) (base := base) T L.PS L.I
  have G_law_whys := ok_whys (P := P) (w := w) (base := base) T L
  have G_law_same := ok_law_same (P := P) (base := base) T 4
  have tC : ∀ G : Hp, SqT K G Z.c_CODES (codesL.map V.str) := T.v_CODES
  obtain ⟨oc, od, kV, doc, pm, an, cdv, ct, osl, e, lk, hcd⟩ := T.F_law_codes_so.ex
  rw [e] at lk hc ⊢
  obtain rfl : cdv = .ref cc := hc
  refine fn_of lk hcd sc_law_codes_so (fun vs H Q E h => ?_) (fun A outer s H vs Q E hr h => ?_)
  · obtain ⟨t, b, l, rfl, _⟩ := h
    rfl
  · obtain ⟨t, b, l, rfl, ht, ntb, hB, hT, q⟩ := h
    refine ⟨_, PSs.nox (pss_cons (ps_if (PW.pt (pw_or (pt_not (pt_val (pe_callB (call_isi : CallR _ _ (rIsi K)) (by rfl) T.n_isinstance boot_isinstance (pa_cons (pe_glob (v := .ref Z.c_CODES) (by rfl) T.g_CODES rfl) (pa_cons (pe_bltn (v := .ty "tuple") (by rfl) T.n_tuple boot_tuple rfl) pa_nil))))) (pw_or1 (pt_not (pt_val (pe_call G_law_same (hr.mono (by omega)) (by rfl) T.m_law_same T.F_law_same.kp T.b_law_same .nil pass0 (pa_cons (pe_callTy Go.c_list (by rfl) T.n_list boot_list (pa_cons (pe_glob (v := .ref Z.c_CODES) (by rfl) T.g_CODES rfl) pa_nil)) (pa_cons (pv 0) pa_nil)))))))) (pss_one (ps_ret pe_bl)) pss_nil)
      (pss_cons (ps_set (i := 1) sc_law_codes_so.nd rfl (Or.inl rfl) (pe_lst (pa_cons (Lend.pe_lam0 (T := TT) TB_law_codes_so rfl hm_law_codes_so hu_law_codes_so (LendN.free_ok (by decide +kernel)) rfl) (pa_cons (Lend.pe_lam1 (T := TT) TB_law_codes_so rfl hm_law_codes_so hu_law_codes_so (LendN.free_ok (by decide +kernel)) rfl rfl pe_int) (pa_cons (Lend.pe_lam1 (T := TT) TB_law_codes_so rfl hm_law_codes_so hu_law_codes_so (LendN.free_ok (by decide +kernel)) rfl rfl pe_int) (pa_cons (Lend.pe_lam1 (T := TT) TB_law_codes_so rfl hm_law_codes_so hu_law_codes_so (LendN.free_ok (by decide +kernel)) rfl rfl pe_int) pa_nil))))))
      (pss_cons (ps_set (i := 2) sc_law_codes_so.nd rfl (Or.inl rfl) (pe_lst (pa_cons (pe_tup (pa_cons pe_str (pa_cons (pe_tup (pa_cons pe_int pa_nil)) pa_nil))) (pa_cons (pe_tup (pa_cons pe_str (pa_cons pe_non pa_nil))) (pa_cons (pe_tup (pa_cons pe_str (pa_cons (pe_tup (pa_cons pe_bl pa_nil)) pa_nil))) (pa_cons (pe_tup (pa_cons pe_str (pa_cons (pe_tup (pa_cons pe_int pa_nil)) pa_nil))) pa_nil))))))
      (pss_one (ps_ret (pe_and (pe_call G_law_same (hr.mono (by omega)) (by rfl) T.m_law_same T.F_law_same.kp T.b_law_same .nil pass0 (pa_cons (LendN.pe_callW [] G_law_whys (hr.mono (by omega)) (by rfl) T.m_law_whys T.F_law_whys.kp T.b_law_whys .nil (pa_cons (pv 1) pa_nil)) (pa_cons (pv 2) pa_nil))) (pe_one (pe_call G_law_same (hr.mono (by omega)) (by rfl) T.m_law_same T.F_law_same.kp T.b_law_same .nil pass0 (pa_cons (pe_lst (pa_cons (pe_call G_cell_of (hr.mono (by omega)) (by rfl) T.m_cell_of T.F_cell_of.kp (Classical.choose_spec T.d_cell_of_4).2 (Classical.choose_spec T.d_cell_of_4).1 LendN.passF (pa_cons pe_str (pa_cons pe_int (pa_cons pe_int (pa_cons pe_int pa_nil))))) (pa_cons (pe_call G_parted (hr.mono (by omega)) (by rfl) T.m_parted T.F_parted.kp T.b_parted .nil LendN.passF (pa_cons pe_int pa_nil)) (pa_cons (pe_call G_parted (hr.mono (by omega)) (by rfl) T.m_parted T.F_parted.kp T.b_parted .nil LendN.passF (pa_cons pe_int pa_nil)) pa_nil)))) (pa_cons (pe_lst (pa_cons pe_int (pa_cons (pe_tup (pa_cons pe_str (pa_cons pe_int (pa_cons pe_int (pa_cons pe_int pa_nil))))) (pa_cons (pe_tup (pa_cons pe_str (pa_cons pe_int (pa_cons pe_int (pa_cons pe_int pa_nil))))) pa_nil)))) pa_nil)))))))))), ?_⟩
    rw [show L2.start N_law_codes_so [V.ref t] = [some (V.ref t), none, none] from rfl]
    try dsimp only [cxOf, Cx.nox]
    tm_at "go"
    refine Go.isi (.ty _) (tyx_t (tC _)) (by tm_at "kit") ?_
    tm_at "go"
    refine Go.listT (tC _) ?_
    tm_at "go"
    refine whysW [some ("InvalidNumber", [.int 4]), none, some ("InvalidNumber", [.bl true]), some ("InvalidNumber", [.int 65536])] (by tm_at "hpL") rfl (Nat.le_of_ble_eq_true rfl) (fun _ m => nomatch m) ?_ ?_
    · intro cs C off n x' hx
      match n, hx with
      | 0, hx =>
        cases hx
        refine' ask_g0 (EK := [kN DN, kI DI]) (k := 3) (N := []) (fr := []) (ws := []) (some (kI DI, [.int 4])) ?S0 C off .nil ?hF0 ?hC0 ?hD0 ?hb00 ?body0 ?hk0 ?hb0
        (case hF0 => tm_at "hpO")
        (case hC0 => tm_at "hpO")
        (case hD0 => tm_at "defs")
        (case hb00 => rfl)
        (case S0 => exact nscope_by (by decide +kernel))
        (case body0 => exact fun A outer s H E hr => (pe_call G_cell_of (hr.mono (by omega)) (by rfl) T.m_cell_of T.F_cell_of.kp (Classical.choose_spec T.d_cell_of_4).2 (Classical.choose_spec T.d_cell_of_4).1 LendN.passL (pa_cons pe_str (pa_cons pe_int (pa_cons pe_int (pa_cons pe_int pa_nil))))))
        (case hk0 => exact (fun e xs h => by cases h <;> exact ⟨.tail _ (.head _), rfl⟩))
        (case hb0 =>
          intro Gc Qc Ec sc en
          tm_at "go"
          have ee : cellE (kN DN) (kI DI) (.str "out") (.int 4) (.int 4) (.int 256) (.str "out") (.int 4) (.int 4) (.int 256) = some (kI DI, [.int 4]) := by
            have ic : isCode (.str "out") = true := by decide +kernel
            simp [cellE, ic, numD]
          exact ⟨_, _, _, _, b, .str "out", .int 4, .int 4, .int 256, rfl, .lit (by decide +kernel), .int _, .int _, .int _, cellE_shown (b := b) (odd_code (by decide +kernel)) (oddI (by decide +kernel) (by decide +kernel)) (oddI (by decide +kernel) (by decide +kernel)) (oddI (by decide +kernel) (by decide +kernel)), fun e xs h d H' ea => by rw [ee] at h; cases h <;> exact en d H' ea, fun h n H' _ s => by rw [ee] at h; cases h <;> exact en _ _ s⟩)
      | 1, hx =>
        cases hx
        refine' ask_g1 (EK := [kN DN, kI DI]) (k := 3) (N := ["_law_a"]) (fr := []) (ws := []) (none) ?S1 C off .nil ?hF1 ?hC1 ?hD1 ?hb01 ?body1 ?hk1 ?hb1
        (case hF1 => tm_at "hpO")
        (case hC1 => tm_at "hpO")
        (case hD1 => tm_at "defs")
        (case hb01 => exact ⟨_, rfl, fun _ => rfl⟩)
        (case S1 => exact nscope_by (by decide +kernel))
        (case body1 => exact fun A outer s H E hr => (pe_call G_cell_of (hr.mono (by omega)) (by rfl) T.m_cell_of T.F_cell_of.kp (Classical.choose_spec T.d_cell_of_4).2 (Classical.choose_spec T.d_cell_of_4).1 LendN.passL (pa_cons pe_str (pa_cons pe_int (pa_cons pe_int (pa_cons pe_int pa_nil))))))
        (case hk1 => exact (fun e xs h => by cases h <;> exact ⟨.tail _ (.head _), rfl⟩))
        (case hb1 =>
          intro Gc Qc Ec sc en
          tm_at "go"
          have ee : cellE (kN DN) (kI DI) (.str "out") (.int 3) (.int 3) (.int 255) (.str "out") (.int 3) (.int 3) (.int 255) = none := by
            have ic : isCode (.str "out") = true := by decide +kernel
            simp [cellE, ic, numD]
          exact ⟨_, _, _, _, b, .str "out", .int 3, .int 3, .int 255, rfl, .lit (by decide +kernel), .int _, .int _, .int _, cellE_shown (b := b) (odd_code (by decide +kernel)) (oddI (by decide +kernel) (by decide +kernel)) (oddI (by decide +kernel) (by decide +kernel)) (oddI (by decide +kernel) (by decide +kernel)), fun e xs h d H' ea => by rw [ee] at h; cases h <;> exact en d H' ea, fun h n H' _ s => by rw [ee] at h; cases h <;> exact en _ _ s⟩)
      | 2, hx =>
        cases hx
        refine' ask_g1 (EK := [kN DN, kI DI]) (k := 3) (N := ["_law_b"]) (fr := []) (ws := []) (some (kI DI, [.bl true])) ?S2 C off .nil ?hF2 ?hC2 ?hD2 ?hb02 ?body2 ?hk2 ?hb2
        (case hF2 => tm_at "hpO")
        (case hC2 => tm_at "hpO")
        (case hD2 => tm_at "defs")
        (case hb02 => exact ⟨_, rfl, fun _ => rfl⟩)
        (case S2 => exact nscope_by (by decide +kernel))
        (case body2 => exact fun A outer s H E hr => (pe_call G_cell_of (hr.mono (by omega)) (by rfl) T.m_cell_of T.F_cell_of.kp (Classical.choose_spec T.d_cell_of_4).2 (Classical.choose_spec T.d_cell_of_4).1 LendN.passL (pa_cons pe_str (pa_cons pe_int (pa_cons pe_int (pa_cons pe_bl pa_nil))))))
        (case hk2 => exact (fun e xs h => by cases h <;> exact ⟨.tail _ (.head _), rfl⟩))
        (case hb2 =>
          intro Gc Qc Ec sc en
          tm_at "go"
          have ee : cellE (kN DN) (kI DI) (.str "out") (.int 0) (.int 0) (.bl true) (.str "out") (.int 0) (.int 0) (.bool true) = some (kI DI, [.bl true]) := by
            have ic : isCode (.str "out") = true := by decide +kernel
            simp [cellE, ic, numD]
          exact ⟨_, _, _, _, b, .str "out", .int 0, .int 0, .bool true, rfl, .lit (by decide +kernel), .int _, .int _, .bl _, cellE_shown (b := b) (odd_code (by decide +kernel)) (oddI (by decide +kernel) (by decide +kernel)) (oddI (by decide +kernel) (by decide +kernel)) (⟨.bl _, by decide, 5000, .inl ⟨_, .bl _, by decide +kernel⟩, Nat.le_refl _⟩), fun e xs h d H' ea => by rw [ee] at h; cases h <;> exact en d H' ea, fun h n H' _ s => by rw [ee] at h; cases h <;> exact en _ _ s⟩)
      | 3, hx =>
        cases hx
        refine' ask_g1 (EK := [kN DN, kI DI]) (k := 3) (N := ["_law_c"]) (fr := []) (ws := []) (some (kI DI, [.int 65536])) ?S3 C off .nil ?hF3 ?hC3 ?hD3 ?hb03 ?body3 ?hk3 ?hb3
        (case hF3 => tm_at "hpO")
        (case hC3 => tm_at "hpO")
        (case hD3 => tm_at "defs")
        (case hb03 => exact ⟨_, rfl, fun _ => rfl⟩)
        (case S3 => exact nscope_by (by decide +kernel))
        (case body3 => exact fun A outer s H E hr => (pe_call G_parted (hr.mono (by omega)) (by rfl) T.m_parted T.F_parted.kp T.b_parted .nil LendN.passL (pa_cons pe_int pa_nil)))
        (case hk3 => exact (fun e xs h => by cases h <;> exact ⟨.tail _ (.head _), rfl⟩))
        (case hb3 =>
          intro Gc Qc Ec sc en
          tm_at "go"
          exact ⟨_, b, .int 65536, rfl, .int _, fun _ => Odd.shows (b := b) (d := .int 65536) (oddI (by decide +kernel) (by decide +kernel)), fun h d' H' ea => en d' H' ea, fun n H' t e n0 n1 s nt et => by cases e; exact absurd n1 (by decide)⟩)
      | n + 4, hx => cases hx
    · intro G tr ts sG nt et hp
      cases hp with | @cons t0 _ _ _ h0 hp => cases hp with | @cons t1 _ _ _ h1 hp => cases hp with | @cons t2 _ _ _ h2 hp => cases hp with | @cons t3 _ _ _ h3 hp =>
      cases hp
      have BG : Bag G b l := by tm_at "bag"
      have nrb : tr ≠ b := Bag.ne (by tm_at "bag") nt
      have dG : ∀ {o : Wy} {t' : Addr} {D : PyData}, WhyAt o G t' → WhyD K G b o D → Dt K G b (.ref t') D := fun h hd => h.dt BG hd
      tm_at "go"
      refine i_sameB (d := .list [.tuple [.str "InvalidNumber", .tuple [.int 4]], .tuple [.str "", .none], .tuple [.str "InvalidNumber", .tuple [.bool true]], .tuple [.str "InvalidNumber", .tuple [.int 65536]]]) (by tm_at "bag")
        (.lst (by tm_at "hpL") nrb (Nat.le_of_ble_eq_true rfl) (.cons (dG h0 (.er (strK_lit (by decide +kernel)) (Nat.le_of_ble_eq_true rfl) (.cons (.int _) .nil))) (.cons (dG h1 .ok) (.cons (dG h2 (.er (strK_lit (by decide +kernel)) (Nat.le_of_ble_eq_true rfl) (.cons (.bl _) .nil))) (.cons (dG h3 (.er (strK_lit (by decide +kernel)) (Nat.le_of_ble_eq_true rfl) (.cons (.int _) .nil))) .nil))))) (by tm_at "dt") (by decide +kernel) fun G2 s2 => ?_
      tm_at "go"
      refine i_cell (z := "out") (j := 15) rfl (by decide) (by decide) (by decide) (by decide) (by decide) (by decide) fun G3 s3 => ?_
      tm_at "go"
      refine i_parted (by decide) (by decide) fun G4 ta s4 na ea => ?_
      have nab : ta ≠ b := Bag.ne (by tm_at "bag") na
      have ea : G4 ta = some (.tup [.str "out", .int 3, .int 3, .int 255]) := ea
      tm_at "go"
      refine i_parted (by decide) (by decide) fun G5 tb s5 nb eb => ?_
      have nbb : tb ≠ b := Bag.ne (by tm_at "bag") nb
      have eb : G5 tb = some (.tup [.str "fault", .int 0, .int 0, .int 0]) := eb
      tm_at "go"
      exact q _
end

open Lend LamX NdefX SupX
theorem eqV_str {a z : Str} : eqV (.str a) (.str z) = (a == z) := rfl
section
variable {P : Program} {w : World} {K : PySem.W.Frag} {mg : Str → Option Value} {base : Heap} {Z : Fs}
theorem i_wrong_so {TT : List (Addr × Str)} {H : Hp} {Q : VK} {E : XK} {b l : Addr} {z : Str} {i j k : Int} (hB : Bag H b l) (hT : Tabs TT H) (hz : z ∈ codesL) (i0 : 0 ≤ i) (i1 : i < 4) (j0 : 0 ≤ j) (j1 : j < 4) (k0 : 0 ≤ k) (k1 : k < 256) (q : ∀ H' : Hp, Bag H' b l → Tabs TT H' → KeepL b H H' → Q (.bl true) H') : sp_law_wrong_so K TT [.ref b, .str z, .int i, .int j, .int k] H Q E := ⟨b, l, z, i, j, k, rfl, hB, hT, hz, i0, i1, j0, j1, k0, k1, q⟩
theorem four_of {j : Nat} {z : Str} {a b c n : Int} (hj : codesL[j]? = some z) (a0 : 0 ≤ a) (a1 : a < 4) (b0 : 0 ≤ b) (b1 : b < 4) (c0 : 0 ≤ c) (c1 : c ≤ 255) (e : n = (((j : Int) * 4 + a) * 4 + b) * 256 + c) : fourV n = [.str z, .int a, .int b, .int c] := by
  unfold fourV
  have h : (n / 4096).toNat = j := by omega
  rw [h, hj, show n / 1024 % 4 = a by omega, show n / 256 % 4 = b by omega, show n % 256 = c by omega]
  rfl
theorem four_ex {n : Int} (n0 : 0 ≤ n) (n1 : n ≤ 65535) : ∃ (j : Nat) (z : Str) (a b c : Int), codesL[j]? = some z ∧ z ∈ codesL ∧ j < 16 ∧ 0 ≤ a ∧ a ≤ 3 ∧ 0 ≤ b ∧ b ≤ 3 ∧ 0 ≤ c ∧ c ≤ 255 ∧ n = (j : Int) * 4096 + a * 1024 + b * 256 + c ∧ fourV n = [.str z, .int a, .int b, .int c] := by
  have hj : (n / 4096).toNat < codesL.length := by
    show (n / 4096).toNat < 16
    omega
  refine ⟨(n / 4096).toNat, codesL[(n / 4096).toNat], n / 1024 % 4, n / 256 % 4, n % 256, List.getElem?_eq_getElem hj, List.getElem_mem hj, hj, by omega, by omega, by omega, by omega, by omega, by omega, by omega, ?_⟩
  unfold fourV
  rw [List.getElem?_eq_getElem hj]
  rfl
theorem i_index {H : Hp} {Q : VK} {t : Addr} {z : Str} {j : Nat} (ht : SqL K H t (codesL.map V.str)) (hj : codesL[j]? = some z) (q : Q (.int (j : Nat)) H) : rIndex K (.ref t) [.str z] H Q := by
  refine ⟨t, codesL.map V.str, .str z, j, .str z, rfl, rfl, ht, rfl, by decide +kernel, by rw [List.getElem?_map, hj]; rfl, beq_self_eq_true z, fun m z' hm e => ?_, q⟩
  rw [List.getElem?_map] at e
  cases e2 : codesL[m]? with
  | none =>
    rw [e2] at e
    cases e
  | some y =>
    rw [e2] at e
    cases e
    show (y == z) = false
    rw [beq_eq_false_iff_ne]
    intro h
    obtain ⟨l1, _⟩ := List.getElem?_eq_some_iff.mp hj
    obtain ⟨l2, _⟩ := List.getElem?_eq_some_iff.mp e2
    have := congrArg Fin.val (codes_inj ⟨m, l2⟩ ⟨j, l1⟩ (e2.trans (h ▸ hj.symm)))
    simp at this
    omega
local macro_rules | `(tactic| tm_at "sp") => `(tactic| ((with_reducible refine' i_cell ?hj ?a0 ?a1 ?b0 ?b1 ?c0 ?c1 ?_); (case hj => assumption); (case a0 => omega); (case a1 => omega); (case b0 => omega); (case b1 => omega); (case c0 => omega); (case c1 => omega); intro _ _))
def sp_law (K : PySem.W.Frag) (TT : List (Addr × Str)) : Sp := fun vs H Q _ => ∃ (a : Addr) (ns : List Int), vs = [.ref a] ∧ SqL K H a (ns.map V.int) ∧ ns.length ≤ 63 ∧ Tabs TT H ∧ ∀ H' : Hp, Q (.bl true) H'
theorem ok_law {DN DI f0 f1 c1 p1 c2 p2 : Addr} {fd0 fd1 : FuncData} {TT : List (Addr × Str)} (T : Txt K w mg Z) (L : Lg P K mg DN DI f0 f1 fd0 fd1)
    (hc1 : Z.d_law_wrong_so.code = .ref c1) (TB1 : TabB base mg c1 p1) (hm1 : (p1, QL "_law_wrong_so") ∈ TT) (hu1 : ∀ p ∈ TT, p.1 = p1 → p.2 = QL "_law_wrong_so")
    (hc2 : Z.d_law_codes_so.code = .ref c2) (TB2 : TabB base mg c2 p2) (hm2 : (p2, QL "_law_codes_so") ∈ TT) (hu2 : ∀ p ∈ TT, p.1 = p2 → p.2 = QL "_law_codes_so") :
    FnOk P w K mg base CX0 12 Z.a_law Z.d_law ["_law_script"] (sp_law K TT) := by
  have G_cell_of := ok_cell_of (P := P) (base := base) T L.PS L.N L.I
  have G_parted := ok_parted (P := P) (base := base) T L.PS L.I
  have G_with_part := ok_with_part (P := P) (base := base) T
  have G_law_bag := ok_law_bag (P := P) (base := base) T
  have G_law_codes := ok_law_codes (P := P) (base := base) T
  have G_law_draw := ok_law_draw (P := P) (base := base) T
  have G_law_of := ok_law_of (P := P) (base := base) T
  have G_law_number := ok_law_number (P := P) (base := base) T
  have G_law_fours := ok_law_fours (P := P) (base := base) T
  have G_law_same := ok_law_same (P := P) (base := base) T 4
  have G_law_wrong_so := ok_law_wrong_so (P := P) (base := base) T L hc1 TB1 hm1 hu1
  have G_law_codes_so := ok_law_codes_so (P := P) (base := base) T L hc2 TB2 hm2 hu2
  refine T.F_law.ok sc_law (fun vs H Q E h => ?_) (fun cdv A outer s H vs Q E hr h => ?_)
  · obtain ⟨a, ns, rfl, _⟩ := h
    rfl
  · obtain ⟨a, ns, rfl, hS, hlen, hT, k⟩ := h
    refine ⟨_, PSs.nox (pss_cons (ps_set (i := 1) sc_law.nd rfl (Or.inl rfl) (pe_call G_law_bag (hr.mono (by omega)) (by rfl) T.m_law_bag T.F_law_bag.kp T.b_law_bag .nil pass0 (pa_cons (pv 0) pa_nil)))
      (pss_cons (ps_set (i := 2) sc_law.nd rfl (Or.inl rfl) (pe_call0 G_law_codes (hr.mono (by omega)) (by rfl) T.m_law_codes T.F_law_codes.kp T.b_law_codes .nil pass0 ))
      (pss_cons (ps_for PassesOwn.never rfl (pi_range1 (by rfl) T.n_range (pa_cons pe_int pa_nil)) (pg_name (i := 3) sc_law.nd rfl (Or.inl rfl)) (pss_cons (ps_asg (pe_tup (pa_cons (pe_call G_law_of (hr.mono (by omega)) (by rfl) T.m_law_of T.F_law_of.kp T.b_law_of .nil pass0 (pa_cons (pv 1) (pa_cons (pv 2) pa_nil))) (pa_cons (pe_call G_law_draw (hr.mono (by omega)) (by rfl) T.m_law_draw T.F_law_draw.kp T.b_law_draw .nil pass0 (pa_cons (pv 1) (pa_cons pe_int pa_nil))) (pa_cons (pe_call G_law_draw (hr.mono (by omega)) (by rfl) T.m_law_draw T.F_law_draw.kp T.b_law_draw .nil pass0 (pa_cons (pv 1) (pa_cons pe_int pa_nil))) (pa_cons (pe_call G_law_of (hr.mono (by omega)) (by rfl) T.m_law_of T.F_law_of.kp T.b_law_of .nil pass0 (pa_cons (pv 1) (pa_cons (pe_lst (pa_cons pe_int (pa_cons pe_int (pa_cons pe_int (pa_cons pe_int (pa_cons (pe_call G_law_draw (hr.mono (by omega)) (by rfl) T.m_law_draw T.F_law_draw.kp T.b_law_draw .nil pass0 (pa_cons (pv 1) (pa_cons pe_int pa_nil))) pa_nil)))))) pa_nil))) pa_nil))))) (pg_tup (by rfl) (pgs_cons (pg_name (i := 4) sc_law.nd rfl (Or.inl rfl)) (pgs_cons (pg_name (i := 5) sc_law.nd rfl (Or.inl rfl)) (pgs_cons (pg_name (i := 6) sc_law.nd rfl (Or.inl rfl)) (pgs_cons (pg_name (i := 7) sc_law.nd rfl (Or.inl rfl)) pgs_nil))))))
      (pss_cons (ps_set (i := 8) sc_law.nd rfl (Or.inl rfl) (pe_op op_add (pe_op op_mul (pe_op op_add (pe_op op_mul (pe_op op_add (pe_op op_mul (pe_bm PySem.F.plainAttrs_list PySem.F.slot_list_index PySem.F.type_list_index (mt_index : MtR _ _ (rIndex K)) (pv 2) (pa_cons (pv 4) pa_nil)) pe_int) (pv 5)) pe_int) (pv 6)) pe_int) (pv 7)))
      (pss_cons (ps_set (i := 9) sc_law.nd rfl (Or.inl rfl) (pe_lst (pa_cons (pe_call G_cell_of (hr.mono (by omega)) (by rfl) T.m_cell_of T.F_cell_of.kp (Classical.choose_spec T.d_cell_of_4).2 (Classical.choose_spec T.d_cell_of_4).1 LendN.passF (pa_cons (pv 4) (pa_cons (pv 5) (pa_cons (pv 6) (pa_cons (pv 7) pa_nil))))) (pa_cons (pe_callN0 G_cell_of (hr.mono (by omega)) (by rfl) T.m_cell_of T.F_cell_of.kp (Classical.choose_spec T.d_cell_of_0_part_s_r_word) LendN.passF (pk_cons (pv 7) (pk_cons (pv 6) (pk_cons (pv 5) (pk_cons (pv 4) pk_nil))))) (pa_cons (pe_call G_parted (hr.mono (by omega)) (by rfl) T.m_parted T.F_parted.kp T.b_parted .nil LendN.passF (pa_cons (pv 8) pa_nil)) (pa_cons (pe_callN0 G_parted (hr.mono (by omega)) (by rfl) T.m_parted T.F_parted.kp T.k_parted_0_cell LendN.passF (pk_cons (pv 8) pk_nil)) pa_nil))))))
      (C8.pss_cut (ps_if (pt_not (pt_val (pe_call G_law_same (hr.mono (by omega)) (by rfl) T.m_law_same T.F_law_same.kp T.b_law_same .nil pass0 (pa_cons (pv 9) (pa_cons (pe_lst (pa_cons (pv 8) (pa_cons (pv 8) (pa_cons (pe_tup (pa_cons (pv 4) (pa_cons (pv 5) (pa_cons (pv 6) (pa_cons (pv 7) pa_nil))))) (pa_cons (pe_tup (pa_cons (pv 4) (pa_cons (pv 5) (pa_cons (pv 6) (pa_cons (pv 7) pa_nil))))) pa_nil))))) pa_nil))))) (pss_one (ps_ret pe_bl)) pss_nil)
      (pss_cons (ps_set (i := 10) sc_law.nd rfl (Or.inl rfl) (pe_lst (pa_cons (pe_call G_cell_of (hr.mono (by omega)) (by rfl) T.m_cell_of T.F_cell_of.kp (Classical.choose_spec T.d_cell_of_1).2 (Classical.choose_spec T.d_cell_of_1).1 LendN.passF (pa_cons (pv 4) pa_nil)) (pa_cons (pe_call G_cell_of (hr.mono (by omega)) (by rfl) T.m_cell_of T.F_cell_of.kp (Classical.choose_spec T.d_cell_of_2).2 (Classical.choose_spec T.d_cell_of_2).1 LendN.passF (pa_cons (pv 4) (pa_cons (pv 5) pa_nil))) (pa_cons (pe_callN G_cell_of (hr.mono (by omega)) (by rfl) T.m_cell_of T.F_cell_of.kp (Classical.choose_spec T.d_cell_of_1_part) LendN.passF (pa_cons (pv 4) pa_nil) (pk_cons (pv 7) pk_nil)) (pa_cons (pe_callN G_cell_of (hr.mono (by omega)) (by rfl) T.m_cell_of T.F_cell_of.kp (Classical.choose_spec T.d_cell_of_1_s) LendN.passF (pa_cons (pv 4) pa_nil) (pk_cons (pv 6) pk_nil)) pa_nil))))))
      (C8.pss_cut (ps_if (pt_not (pt_val (pe_call G_law_same (hr.mono (by omega)) (by rfl) T.m_law_same T.F_law_same.kp T.b_law_same .nil pass0 (pa_cons (pv 10) (pa_cons (pe_lst (pa_cons (pe_op op_sub (pe_op op_sub (pe_op op_sub (pv 8) (pe_op op_mul (pv 5) pe_int)) (pe_op op_mul (pv 6) pe_int)) (pv 7)) (pa_cons (pe_op op_sub (pe_op op_sub (pv 8) (pe_op op_mul (pv 6) pe_int)) (pv 7)) (pa_cons (pe_op op_sub (pe_op op_sub (pv 8) (pe_op op_mul (pv 5) pe_int)) (pe_op op_mul (pv 6) pe_int)) (pa_cons (pe_op op_sub (pe_op op_sub (pv 8) (pe_op op_mul (pv 5) pe_int)) (pv 7)) pa_nil))))) pa_nil))))) (pss_one (ps_ret pe_bl)) pss_nil)
      (pss_cons (ps_par (i := 11) (j := 12) (by rfl) sc_law.nd rfl rfl (by decide) rfl rfl (pa_cons (pe_call G_law_number (hr.mono (by omega)) (by rfl) T.m_law_number T.F_law_number.kp T.b_law_number .nil pass0 (pa_cons (pv 1) pa_nil)) (pa_cons (pe_call G_law_draw (hr.mono (by omega)) (by rfl) T.m_law_draw T.F_law_draw.kp T.b_law_draw .nil pass0 (pa_cons (pv 1) (pa_cons pe_int pa_nil))) pa_nil)) (by rfl))
      (pss_cons (ps_set (i := 13) sc_law.nd rfl (Or.inl rfl) (pe_call G_law_fours (hr.mono (by omega)) (by rfl) T.m_law_fours T.F_law_fours.kp T.b_law_fours .nil pass0 (pa_cons (pv 11) pa_nil)))
      (C8.pss_cut (ps_if (pt_not (pt_val (pe_call G_law_same (hr.mono (by omega)) (by rfl) T.m_law_same T.F_law_same.kp T.b_law_same .nil pass0 (pa_cons (pe_lst (pa_cons (pe_call G_parted (hr.mono (by omega)) (by rfl) T.m_parted T.F_parted.kp T.b_parted .nil LendN.passF (pa_cons (pv 11) pa_nil)) (pa_cons (pe_call G_cell_of (hr.mono (by omega)) (by rfl) T.m_cell_of T.F_cell_of.kp (Classical.choose_spec T.d_cell_of_4).2 (Classical.choose_spec T.d_cell_of_4).1 LendN.passF (pa_cons (pe_ix (ix_tup : IxR _ (rIxT K)) (pv 13) pe_int (fun _ _ => rfl)) (pa_cons (pe_ix (ix_tup : IxR _ (rIxT K)) (pv 13) pe_int (fun _ _ => rfl)) (pa_cons (pe_ix (ix_tup : IxR _ (rIxT K)) (pv 13) pe_int (fun _ _ => rfl)) (pa_cons (pe_ix (ix_tup : IxR _ (rIxT K)) (pv 13) pe_int (fun _ _ => rfl)) pa_nil))))) pa_nil))) (pa_cons (pe_lst (pa_cons (pv 13) (pa_cons (pv 11) pa_nil))) pa_nil))))) (pss_one (ps_ret pe_bl)) pss_nil)
      (pss_cons (ps_set (i := 14) sc_law.nd rfl (Or.inl rfl) (pe_lst (pa_cons (pe_call G_with_part (hr.mono (by omega)) (by rfl) T.m_with_part T.F_with_part.kp T.b_with_part .nil pass0 (pa_cons (pv 11) (pa_cons (pv 12) pa_nil))) (pa_cons (pe_callN0 G_with_part (hr.mono (by omega)) (by rfl) T.m_with_part T.F_with_part.kp T.k_with_part_0_part_cell pass0 (pk_cons (pv 12) (pk_cons (pv 11) pk_nil))) (pa_cons (pe_call G_with_part (hr.mono (by omega)) (by rfl) T.m_with_part T.F_with_part.kp T.b_with_part .nil pass0 (pa_cons (pv 11) (pa_cons (pe_ix (ix_tup : IxR _ (rIxT K)) (pv 13) pe_int (fun _ _ => rfl)) pa_nil))) pa_nil)))))
      (C8.pss_cut (ps_if (pt_not (pt_val (pe_call G_law_same (hr.mono (by omega)) (by rfl) T.m_law_same T.F_law_same.kp T.b_law_same .nil pass0 (pa_cons (pv 14) (pa_cons (pe_lst (pa_cons (pe_op op_add (pe_op op_sub (pv 11) (pe_ix (ix_tup : IxR _ (rIxT K)) (pv 13) pe_int (fun _ _ => rfl))) (pv 12)) (pa_cons (pe_op op_add (pe_op op_sub (pv 11) (pe_ix (ix_tup : IxR _ (rIxT K)) (pv 13) pe_int (fun _ _ => rfl))) (pv 12)) (pa_cons (pv 11) pa_nil)))) pa_nil))))) (pss_one (ps_ret pe_bl)) pss_nil)
      (pss_one (ps_if (pt_not (pt_val (pe_call G_law_wrong_so (hr.mono (by omega)) (by rfl) T.m_law_wrong_so T.F_law_wrong_so.kp T.b_law_wrong_so .nil pass0 (pa_cons (pv 1) (pa_cons (pv 4) (pa_cons (pv 5) (pa_cons (pv 6) (pa_cons (pv 7) pa_nil)))))))) (pss_one (ps_ret pe_bl)) pss_nil))))))))))))))
      (pss_one (ps_ret (pe_call G_law_codes_so (hr.mono (by omega)) (by rfl) T.m_law_codes_so T.F_law_codes_so.kp T.b_law_codes_so .nil pass0 (pa_cons (pv 2) pa_nil))))))), ?_⟩
    rw [show L2.start N_law [V.ref a] = [some (V.ref a), none, none, none, none, none, none, none, none, none, none, none, none, none, none] from rfl]
    try dsimp only [cxOf, Cx.nox]
    tm_at "go"
    rename_i G1 b l s1 nb nl B1 G2 t s2 nt et tb
    have T2 : Tabs TT G2 := tabS s2 (tabS s1 hT)
    have B2 : Bag G2 b l := B1.same s2
    have et : G2 t = some (.lst [.str "fault", .str "halt", .str "high", .str "low", .str "add", .str "take", .str "load", .str "store", .str "jump", .str "ifzero", .str "call", .str "near", .str "jumpby", .str "callby", .str "back", .str "out"]) := et
    refine Go.for_w walk_range (fun i σ H' => ∃ v0 v3 v4 v5 v6 v7 v8 v9 v10 v11 v12 v13 v14, σ = [v0, some (.ref b), some (.ref t), v3, v4, v5, v6, v7, v8, v9, v10, v11, v12, v13, v14] ∧ Bag H' b l ∧ Tabs TT H' ∧ H' t = some (.lst [.str "fault", .str "halt", .str "high", .str "low", .str "add", .str "take", .str "load", .str "store", .str "jump", .str "ifzero", .str "call", .str "near", .str "jumpby", .str "callby", .str "back", .str "out"])) ⟨_, _, _, _, _, _, _, _, _, _, _, _, _, rfl, B2, T2, et⟩ (fun _ _ _ _ _ => trivial) ?_ ?_
    · clear et B2 T2 s2 s1 nt hS B1
      rintro i v σ H4 H5 hi ⟨v0, v3, v4, v5, v6, v7, v8, v9, v10, v11, v12, v13, v14, rfl, B4, T4, et⟩ ⟨rfl, rfl⟩
      tm_at "go"
      rename_i J1 vo u1 E1 ho J2 aa u2 E2 a0 a1 J3 bb u3 E3 b0 b1 J4 kk u4 E4 k0 k1 pl J5 m5 u5 e5 lb ll J6 vc u6 E6 hvc pt J7 m7 u7 e7 ptb ptl
      have t7 : J7 t = some (.lst [.str "fault", .str "halt", .str "high", .str "low", .str "add", .str "take", .str "load", .str "store", .str "jump", .str "ifzero", .str "call", .str "near", .str "jumpby", .str "callby", .str "back", .str "out"]) := by tm_at "hpO"
      have B7 : Bag J7 b l := by tm_at "bag"
      have T7 : Tabs TT J7 := by tm_at "tabs"
      obtain ⟨z, hz, rfl⟩ := List.mem_map.mp (show vo ∈ codesL.map V.str from ho)
      obtain ⟨j, hj⟩ := List.mem_iff_getElem?.mp hz
      have hj16 : j < 16 := (List.getElem?_eq_some_iff.mp hj).1
      obtain ⟨cc, rfl, c0, c1⟩ : ∃ n : Int, vc = V.int n ∧ 0 ≤ n ∧ n ≤ 255 := by
        revert hvc
        refine fun hvc => (show ∀ y ∈ _, ∃ n : Int, y = V.int n ∧ 0 ≤ n ∧ n ≤ 255 from ?_) _ hvc
        tm_at "all"
        all_goals exact ⟨_, rfl, by omega, by omega⟩
      clear ho et e5 e7 B4 T4 u1 E1 u2 E2 u3 E3 u4 E4 u5 E6 u6 u7 m5 m7
      refine Go.bm ?_
      tm_at "go1"
      refine ⟨.inl ⟨rfl, _, SqL.of t7⟩, ?_⟩
      tm_at "go"
      refine i_index (SqL.of t7) hj ?_
      have hf : fourV ((((j : Int) * 4 + aa) * 4 + bb) * 256 + cc) = [.str z, .int aa, .int bb, .int cc] := four_of hj a0 a1 b0 b1 c0 c1 rfl
      have hk : StrK z := strK_lit (str_ok z hz)
      tm_at "go"
      refine i_parted (by omega) (by omega) fun R1 ta r1 na ea => ?_
      have nab : ta ≠ b := Bag.ne (by tm_at "bag") na
      rw [hf] at ea
      tm_at "go"
      refine i_parted (by omega) (by omega) fun R2 ta' r2 na' ea' => ?_
      have nab' : ta' ≠ b := Bag.ne (by tm_at "bag") na'
      rw [hf] at ea'
      tm_at "go"
      rename_i pf Jf mf sf ef pfb pfl
      refine Go.cut (fun σ' H' => σ' = [v0, some (.ref b), some (.ref t), some (.int (0 + (i : Int))), some (.str z), some (.int aa), some (.int bb), some (.int cc), some (.int ((((j : Int) * 4 + aa) * 4 + bb) * 256 + cc)), some (.ref pf), v10, v11, v12, v13, v14] ∧ Bag H' b l ∧ Tabs TT H' ∧ H' t = some (.lst [.str "fault", .str "halt", .str "high", .str "low", .str "add", .str "take", .str "load", .str "store", .str "jump", .str "ifzero", .str "call", .str "near", .str "jumpby", .str "callby", .str "back", .str "out"])) ?_ ?_
      · tm_at "go"
        refine i_sameB (d := .list [.int ((((j : Int) * 4 + aa) * 4 + bb) * 256 + cc), .int ((((j : Int) * 4 + aa) * 4 + bb) * 256 + cc), .tuple [.str z, .int aa, .int bb, .int cc], .tuple [.str z, .int aa, .int bb, .int cc]]) (by tm_at "bag") (.lst (by tm_at "hpL") pfb (Nat.le_of_ble_eq_true rfl) (.cons (Dt.intE (by omega)) (.cons (Dt.intE (by omega)) (.cons (by tm_at "dt") (.cons (by tm_at "dt") .nil))))) (by tm_at "dt") (by simp only [dep, depA]; omega) fun X1 x1 => ?_
        tm_at "go"
        exact ⟨by tm_at "bag", by tm_at "tabs", by tm_at "hpO"⟩
      · rintro σ' Y1 ⟨rfl, B8, T8, t8⟩
        clear ef sf mf ea ea' r1 r2 na na' B7 T7 t7
        tm_at "go"
        rename_i pg Jg mg' sg eg pgb pgl
        refine Go.cut (fun σ' H' => σ' = [v0, some (.ref b), some (.ref t), some (.int (0 + (i : Int))), some (.str z), some (.int aa), some (.int bb), some (.int cc), some (.int ((((j : Int) * 4 + aa) * 4 + bb) * 256 + cc)), some (.ref pf), some (.ref pg), v11, v12, v13, v14] ∧ Bag H' b l ∧ Tabs TT H' ∧ H' t = some (.lst [.str "fault", .str "halt", .str "high", .str "low", .str "add", .str "take", .str "load", .str "store", .str "jump", .str "ifzero", .str "call", .str "near", .str "jumpby", .str "callby", .str "back", .str "out"])) ?_ ?_
        · tm_at "go"
          refine i_sameB (d := .list [.int ((((j : Int) * 4 + aa) * 4 + bb) * 256 + cc - aa * 1024 - bb * 256 - cc), .int ((((j : Int) * 4 + aa) * 4 + bb) * 256 + cc - bb * 256 - cc), .int ((((j : Int) * 4 + aa) * 4 + bb) * 256 + cc - aa * 1024 - bb * 256), .int ((((j : Int) * 4 + aa) * 4 + bb) * 256 + cc - aa * 1024 - cc)]) (by tm_at "bag") (.lst (by tm_at "hpL") pgb (Nat.le_of_ble_eq_true rfl) (.cons (Dt.intE (by omega)) (.cons (Dt.intE (by omega)) (.cons (Dt.intE (by omega)) (.cons (Dt.intE (by omega)) .nil))))) (by tm_at "dt") (by simp only [dep, depA]; omega) fun X1 x1 => ?_
          tm_at "go"
          exact ⟨by tm_at "bag", by tm_at "tabs", by tm_at "hpO"⟩
        · rintro σ' Y2 ⟨rfl, B9, T9, t9⟩
          clear eg sg mg' B8 T8 t8
          tm_at "go"
          rename_i Ya n ya Ba n0 n1 Yb late yb Bb late0 late1 Yd tq yd nq eq qb
          obtain ⟨j', z', a', b', c', hj', hz', hjj, a0', a1', b0', b1', c0', c1', hn, hf'⟩ := four_ex n0 n1
          have hk' : StrK z' := strK_lit (str_ok z' hz')
          rw [hf'] at eq

          refine Go.cut (fun σ' H' => σ' = [v0, some (.ref b), some (.ref t), some (.int (0 + (i : Int))), some (.str z), some (.int aa), some (.int bb), some (.int cc), some (.int ((((j : Int) * 4 + aa) * 4 + bb) * 256 + cc)), some (.ref pf), some (.ref pg), some (.int n), some (.int late), some (.ref tq), v14] ∧ Bag H' b l ∧ Tabs TT H' ∧ H' t = some (.lst [.str "fault", .str "halt", .str "high", .str "low", .str "add", .str "take", .str "load", .str "store", .str "jump", .str "ifzero", .str "call", .str "near", .str "jumpby", .str "callby", .str "back", .str "out"]) ∧ H' tq = some (.tup [.str z', .int a', .int b', .int c'])) ?_ ?_
          · tm_at "go"
            refine i_parted n0 n1 fun R1 ta r1 na ea => ?_
            have nab : ta ≠ b := Bag.ne (by tm_at "bag") na
            rw [hf'] at ea
            tm_at "go"
            rename_i R2 r2 p3 R3 n3 r3 e3 p3b p3l p4 R4 n4 r4 e4 p4b p4l
            refine i_sameB (d := .list [.tuple [.str z', .int a', .int b', .int c'], .int n]) (by tm_at "bag") (.lst (by tm_at "hpL") p3b (Nat.le_of_ble_eq_true rfl) (.cons (by tm_at "dt") (.cons (Dt.intE (by omega)) .nil))) (by tm_at "dt") (by simp only [dep, depA]; omega) fun X1 x1 => ?_
            tm_at "go"
            exact ⟨by tm_at "bag", by tm_at "tabs", by tm_at "hpO", by tm_at "hpO"⟩
          · rintro σ' Y3 ⟨rfl, BA, TA, tA, eA⟩
            clear B9 T9 t9 eq
            tm_at "go"
            rename_i ph Jh mh sh eh phb phl
            refine Go.cut (fun σ' H' => σ' = [v0, some (.ref b), some (.ref t), some (.int (0 + (i : Int))), some (.str z), some (.int aa), some (.int bb), some (.int cc), some (.int ((((j : Int) * 4 + aa) * 4 + bb) * 256 + cc)), some (.ref pf), some (.ref pg), some (.int n), some (.int late), some (.ref tq), some (.ref ph)] ∧ Bag H' b l ∧ Tabs TT H' ∧ H' t = some (.lst [.str "fault", .str "halt", .str "high", .str "low", .str "add", .str "take", .str "load", .str "store", .str "jump", .str "ifzero", .str "call", .str "near", .str "jumpby", .str "callby", .str "back", .str "out"])) ?_ ?_
            · tm_at "go"
              refine i_sameB (d := .list [.int (n - c' + late), .int (n - c' + late), .int n]) (by tm_at "bag") (.lst (by tm_at "hpL") phb (Nat.le_of_ble_eq_true rfl) (.cons (Dt.intE (by omega)) (.cons (Dt.intE (by omega)) (.cons (Dt.intE (by omega)) .nil)))) (by tm_at "dt") (by simp only [dep, depA]; omega) fun X1 x1 => ?_
              tm_at "go"
              exact ⟨by tm_at "bag", by tm_at "tabs", by tm_at "hpO"⟩
            · rintro σ' Y4 ⟨rfl, BB, TB, tB⟩
              tm_at "go"
              refine i_wrong_so BB TB hz a0 a1 b0 b1 c0 (by omega) fun Y5 B5 T5 K5 => ?_
              tm_at "go"
              exact ⟨_, _, _, _, _, _, _, _, _, _, _, _, _, rfl, B5, T5, K5 _ _ tb tB⟩
    · rintro σ H4 ⟨v0, v3, v4, v5, v6, v7, v8, v9, v10, v11, v12, v13, v14, rfl, B4, T4, et⟩
      tm_at "go"
      exact ⟨t, b, l, rfl, et, tb, B4, T4, k⟩
end
local macro_rules | `(tactic| tm_at "sp") => `(tactic| ((with_reducible refine' i_cell ?hj ?a0 ?a1 ?b0 ?b1 ?c0 ?c1 ?_); (case hj => assumption); (case a0 => omega); (case a1 => omega); (case b0 => omega); (case b1 => omega); (case c0 => omega); (case c1 => omega); intro _ _))

open Lend LamX NdefX SupX
/-! ### what the top has written, the head -/
abbrev bmOf {B newId initId : String} {bm : List Value} (_ : ExcBaseFacts B newId initId bm) : List Value := bm
theorem all_mkE {l : PySem.W.OpenLaw} {w : World} {K : PySem.W.Frag} {h : Heap} {mg : Str → Option Value} {fa : Addr} (PS : SupX.ProgS l.prog FL) (X : K.In h) (G : h.Ns mainGlobals mg) (hfa : mg "law" = some (.ref fa))
    {fi_InvalidNumber cl_InvalidNumber cda_InvalidNumber : Addr} {oc_InvalidNumber kV_InvalidNumber dc_InvalidNumber pm_InvalidNumber ct_InvalidNumber ccl_InvalidNumber ccv_InvalidNumber : Value} {od_InvalidNumber an_InvalidNumber cdd_InvalidNumber cld_InvalidNumber : Option Addr} {os_InvalidNumber ccs_InvalidNumber csl_InvalidNumber : Array (Option Value)} {vsC_InvalidNumber : Array Value} {tf_InvalidNumber : Tok} {cd_InvalidNumber : ClassData} {nm_InvalidNumber q_InvalidNumber : Str} {N_InvalidNumber : Addr} {bs_InvalidNumber bm_InvalidNumber : List Value} {sn_InvalidNumber : List Str} {sub_InvalidNumber : List Value} {ab_InvalidNumber : Bool} {col_InvalidNumber : Option Bool} {dd_InvalidNumber : Option Addr} {k0_InvalidNumber k1_InvalidNumber k2_InvalidNumber k3_InvalidNumber k5_InvalidNumber : Option Value}
    {fi_InvalidName cl_InvalidName cda_InvalidName : Addr} {oc_InvalidName kV_InvalidName dc_InvalidName pm_InvalidName ct_InvalidName ccl_InvalidName ccv_InvalidName : Value} {od_InvalidName an_InvalidName cdd_InvalidName cld_InvalidName : Option Addr} {os_InvalidName ccs_InvalidName csl_InvalidName : Array (Option Value)} {vsC_InvalidName : Array Value} {tf_InvalidName : Tok} {cd_InvalidName : ClassData} {nm_InvalidName q_InvalidName : Str} {N_InvalidName : Addr} {bs_InvalidName bm_InvalidName : List Value} {sn_InvalidName : List Str} {sub_InvalidName : List Value} {ab_InvalidName : Bool} {col_InvalidName : Option Bool} {dd_InvalidName : Option Addr} {k0_InvalidName k1_InvalidName k2_InvalidName k3_InvalidName k5_InvalidName : Option Value}
    {cc_law_wrong_so pp_law_wrong_so cc_law_codes_so pp_law_codes_so : Addr} {tcl_law_wrong_so : Value} {tcd_law_wrong_so : Option Addr} {tvs_law_wrong_so : Array Value} {tcs_law_wrong_so : Array (Option Value)} {tcl_law_codes_so : Value} {tcd_law_codes_so : Option Addr} {tvs_law_codes_so : Array Value} {tcs_law_codes_so : Array (Option Value)}
    {f_is_word f_is_number f_cell_of f_parted f_with_part f_law_bag f_law_draw f_law_of f_law_same f_law_field f_law_try f_law_why f_law_whys f_law_odd f_law_number f_law_within f_law_codes f_law_fours f_law_cell_due f_law_wrong_so f_law_codes_so f_law  q_CODES : Addr}
    {od_is_word an_is_word od_is_number an_is_number od_cell_of an_cell_of od_parted an_parted od_with_part an_with_part od_law_bag an_law_bag od_law_draw an_law_draw od_law_of an_law_of od_law_same an_law_same od_law_field an_law_field od_law_try an_law_try od_law_why an_law_why od_law_whys an_law_whys od_law_odd an_law_odd od_law_number an_law_number od_law_within an_law_within od_law_codes an_law_codes od_law_fours an_law_fours od_law_cell_due an_law_cell_due od_law_wrong_so an_law_wrong_so od_law_codes_so an_law_codes_so od_law an_law : Option Addr} {sl_is_word sl_is_number sl_cell_of sl_parted sl_with_part sl_law_bag sl_law_draw sl_law_of sl_law_same sl_law_field sl_law_try sl_law_why sl_law_whys sl_law_odd sl_law_number sl_law_within sl_law_codes sl_law_fours sl_law_cell_due sl_law_wrong_so sl_law_codes_so sl_law : Array (Option Value)} {oc_is_word kV_is_word dc_is_word pm_is_word cd_is_word ct_is_word oc_is_number kV_is_number dc_is_number pm_is_number cd_is_number ct_is_number oc_cell_of kV_cell_of dc_cell_of pm_cell_of cd_cell_of ct_cell_of oc_parted kV_parted dc_parted pm_parted cd_parted ct_parted oc_with_part kV_with_part dc_with_part pm_with_part cd_with_part ct_with_part oc_law_bag kV_law_bag dc_law_bag pm_law_bag cd_law_bag ct_law_bag oc_law_draw kV_law_draw dc_law_draw pm_law_draw cd_law_draw ct_law_draw oc_law_of kV_law_of dc_law_of pm_law_of cd_law_of ct_law_of oc_law_same kV_law_same dc_law_same pm_law_same cd_law_same ct_law_same oc_law_field kV_law_field dc_law_field pm_law_field cd_law_field ct_law_field oc_law_try kV_law_try dc_law_try pm_law_try cd_law_try ct_law_try oc_law_why kV_law_why dc_law_why pm_law_why cd_law_why ct_law_why oc_law_whys kV_law_whys dc_law_whys pm_law_whys cd_law_whys ct_law_whys oc_law_odd kV_law_odd dc_law_odd pm_law_odd cd_law_odd ct_law_odd oc_law_number kV_law_number dc_law_number pm_law_number cd_law_number ct_law_number oc_law_within kV_law_within dc_law_within pm_law_within cd_law_within ct_law_within oc_law_codes kV_law_codes dc_law_codes pm_law_codes cd_law_codes ct_law_codes oc_law_fours kV_law_fours dc_law_fours pm_law_fours cd_law_fours ct_law_fours oc_law_cell_due kV_law_cell_due dc_law_cell_due pm_law_cell_due cd_law_cell_due ct_law_cell_due oc_law_wrong_so kV_law_wrong_so dc_law_wrong_so pm_law_wrong_so ct_law_wrong_so oc_law_codes_so kV_law_codes_so dc_law_codes_so pm_law_codes_so ct_law_codes_so oc_law kV_law dc_law pm_law cd_law ct_law : Value}
    (a_is_word : PySem.W.nsIn K mainGlobals "is_word" = some (some (.ref f_is_word))) (l_is_word : K.lookup f_is_word = some ⟨oc_is_word, od_is_word, .func (PySem.W.fnOf "is_word" "is_word" (defArgs s_is_word) (defBody s_is_word) (defScope s_is_word) .none kV_is_word dc_is_word pm_is_word an_is_word cd_is_word ct_is_word), sl_is_word⟩) (c_is_word : PySem.W.codeIn K cd_is_word "is_word" = true) (k_is_word : PySem.W.keepIn K (.ref f_is_word) = true)
    (a_is_number : PySem.W.nsIn K mainGlobals "is_number" = some (some (.ref f_is_number))) (l_is_number : K.lookup f_is_number = some ⟨oc_is_number, od_is_number, .func (PySem.W.fnOf "is_number" "is_number" (defArgs s_is_number) (defBody s_is_number) (defScope s_is_number) .none kV_is_number dc_is_number pm_is_number an_is_number cd_is_number ct_is_number), sl_is_number⟩) (c_is_number : PySem.W.codeIn K cd_is_number "is_number" = true) (k_is_number : PySem.W.keepIn K (.ref f_is_number) = true)
    {t_cell_of : Addr} {td_cell_of : Option Addr} {ti_cell_of : Array Value} {tn_cell_of : Nat} {ts_cell_of : Array (Option Value)}
    (a_cell_of : PySem.W.nsIn K mainGlobals "cell_of" = some (some (.ref f_cell_of))) (l_cell_of : K.lookup f_cell_of = some ⟨oc_cell_of, od_cell_of, .func (PySem.W.fnOf "cell_of" "cell_of" (defArgs s_cell_of) (defBody s_cell_of) (defScope s_cell_of) (.ref t_cell_of) kV_cell_of dc_cell_of pm_cell_of an_cell_of cd_cell_of ct_cell_of), sl_cell_of⟩) (c_cell_of : PySem.W.codeIn K cd_cell_of "cell_of" = true) (k_cell_of : PySem.W.keepIn K (.ref f_cell_of) = true)
    (tl_cell_of : K.lookup t_cell_of = some ⟨.type "tuple", td_cell_of, .seq ti_cell_of tn_cell_of, ts_cell_of⟩) (tv_cell_of : Vals [.int 0, .int 0, .int 0] ti_cell_of.toList)
    (a_parted : PySem.W.nsIn K mainGlobals "parted" = some (some (.ref f_parted))) (l_parted : K.lookup f_parted = some ⟨oc_parted, od_parted, .func (PySem.W.fnOf "parted" "parted" (defArgs s_parted) (defBody s_parted) (defScope s_parted) .none kV_parted dc_parted pm_parted an_parted cd_parted ct_parted), sl_parted⟩) (c_parted : PySem.W.codeIn K cd_parted "parted" = true) (k_parted : PySem.W.keepIn K (.ref f_parted) = true)
    (a_with_part : PySem.W.nsIn K mainGlobals "with_part" = some (some (.ref f_with_part))) (l_with_part : K.lookup f_with_part = some ⟨oc_with_part, od_with_part, .func (PySem.W.fnOf "with_part" "with_part" (defArgs s_with_part) (defBody s_with_part) (defScope s_with_part) .none kV_with_part dc_with_part pm_with_part an_with_part cd_with_part ct_with_part), sl_with_part⟩) (c_with_part : PySem.W.codeIn K cd_with_part "with_part" = true) (k_with_part : PySem.W.keepIn K (.ref f_with_part) = true)
    (a_law_bag : PySem.W.nsIn K mainGlobals "_law_bag" = some (some (.ref f_law_bag))) (l_law_bag : K.lookup f_law_bag = some ⟨oc_law_bag, od_law_bag, .func (PySem.W.fnOf "_law_bag" "_law_bag" (defArgs s_law_bag) (defBody s_law_bag) (defScope s_law_bag) .none kV_law_bag dc_law_bag pm_law_bag an_law_bag cd_law_bag ct_law_bag), sl_law_bag⟩) (c_law_bag : PySem.W.codeIn K cd_law_bag "_law_bag" = true) (k_law_bag : PySem.W.keepIn K (.ref f_law_bag) = true)
    (a_law_draw : PySem.W.nsIn K mainGlobals "_law_draw" = some (some (.ref f_law_draw))) (l_law_draw : K.lookup f_law_draw = some ⟨oc_law_draw, od_law_draw, .func (PySem.W.fnOf "_law_draw" "_law_draw" (defArgs s_law_draw) (defBody s_law_draw) (defScope s_law_draw) .none kV_law_draw dc_law_draw pm_law_draw an_law_draw cd_law_draw ct_law_draw), sl_law_draw⟩) (c_law_draw : PySem.W.codeIn K cd_law_draw "_law_draw" = true) (k_law_draw : PySem.W.keepIn K (.ref f_law_draw) = true)
    (a_law_of : PySem.W.nsIn K mainGlobals "_law_of" = some (some (.ref f_law_of))) (l_law_of : K.lookup f_law_of = some ⟨oc_law_of, od_law_of, .func (PySem.W.fnOf "_law_of" "_law_of" (defArgs s_law_of) (defBody s_law_of) (defScope s_law_of) .none kV_law_of dc_law_of pm_law_of an_law_of cd_law_of ct_law_of), sl_law_of⟩) (c_law_of : PySem.W.codeIn K cd_law_of "_law_of" = true) (k_law_of : PySem.W.keepIn K (.ref f_law_of) = true)
    (a_law_same : PySem.W.nsIn K mainGlobals "_law_same" = some (some (.ref f_law_same))) (l_law_same : K.lookup f_law_same = some ⟨oc_law_same, od_law_same, .func (PySem.W.fnOf "_law_same" "_law_same" (defArgs s_law_same) (defBody s_law_same) (defScope s_law_same) .none kV_law_same dc_law_same pm_law_same an_law_same cd_law_same ct_law_same), sl_law_same⟩) (c_law_same : PySem.W.codeIn K cd_law_same "_law_same" = true) (k_law_same : PySem.W.keepIn K (.ref f_law_same) = true)
    (a_law_field : PySem.W.nsIn K mainGlobals "_law_field" = some (some (.ref f_law_field))) (l_law_field : K.lookup f_law_field = some ⟨oc_law_field, od_law_field, .func (PySem.W.fnOf "_law_field" "_law_field" (defArgs s_law_field) (defBody s_law_field) (defScope s_law_field) .none kV_law_field dc_law_field pm_law_field an_law_field cd_law_field ct_law_field), sl_law_field⟩) (c_law_field : PySem.W.codeIn K cd_law_field "_law_field" = true) (k_law_field : PySem.W.keepIn K (.ref f_law_field) = true)
    (a_law_try : PySem.W.nsIn K mainGlobals "_law_try" = some (some (.ref f_law_try))) (l_law_try : K.lookup f_law_try = some ⟨oc_law_try, od_law_try, .func (PySem.W.fnOf "_law_try" "_law_try" (defArgs s_law_try) (defBody s_law_try) (defScope s_law_try) .none kV_law_try dc_law_try pm_law_try an_law_try cd_law_try ct_law_try), sl_law_try⟩) (c_law_try : PySem.W.codeIn K cd_law_try "_law_try" = true) (k_law_try : PySem.W.keepIn K (.ref f_law_try) = true)
    (a_law_why : PySem.W.nsIn K mainGlobals "_law_why" = some (some (.ref f_law_why))) (l_law_why : K.lookup f_law_why = some ⟨oc_law_why, od_law_why, .func (PySem.W.fnOf "_law_why" "_law_why" (defArgs s_law_why) (defBody s_law_why) (defScope s_law_why) .none kV_law_why dc_law_why pm_law_why an_law_why cd_law_why ct_law_why), sl_law_why⟩) (c_law_why : PySem.W.codeIn K cd_law_why "_law_why" = true) (k_law_why : PySem.W.keepIn K (.ref f_law_why) = true)
    (a_law_whys : PySem.W.nsIn K mainGlobals "_law_whys" = some (some (.ref f_law_whys))) (l_law_whys : K.lookup f_law_whys = some ⟨oc_law_whys, od_law_whys, .func (PySem.W.fnOf "_law_whys" "_law_whys" (defArgs s_law_whys) (defBody s_law_whys) (defScope s_law_whys) .none kV_law_whys dc_law_whys pm_law_whys an_law_whys cd_law_whys ct_law_whys), sl_law_whys⟩) (c_law_whys : PySem.W.codeIn K cd_law_whys "_law_whys" = true) (k_law_whys : PySem.W.keepIn K (.ref f_law_whys) = true)
    (a_law_odd : PySem.W.nsIn K mainGlobals "_law_odd" = some (some (.ref f_law_odd))) (l_law_odd : K.lookup f_law_odd = some ⟨oc_law_odd, od_law_odd, .func (PySem.W.fnOf "_law_odd" "_law_odd" (defArgs s_law_odd) (defBody s_law_odd) (defScope s_law_odd) .none kV_law_odd dc_law_odd pm_law_odd an_law_odd cd_law_odd ct_law_odd), sl_law_odd⟩) (c_law_odd : PySem.W.codeIn K cd_law_odd "_law_odd" = true) (k_law_odd : PySem.W.keepIn K (.ref f_law_odd) = true)
    (a_law_number : PySem.W.nsIn K mainGlobals "_law_number" = some (some (.ref f_law_number))) (l_law_number : K.lookup f_law_number = some ⟨oc_law_number, od_law_number, .func (PySem.W.fnOf "_law_number" "_law_number" (defArgs s_law_number) (defBody s_law_number) (defScope s_law_number) .none kV_law_number dc_law_number pm_law_number an_law_number cd_law_number ct_law_number), sl_law_number⟩) (c_law_number : PySem.W.codeIn K cd_law_number "_law_number" = true) (k_law_number : PySem.W.keepIn K (.ref f_law_number) = true)
    (a_law_within : PySem.W.nsIn K mainGlobals "_law_within" = some (some (.ref f_law_within))) (l_law_within : K.lookup f_law_within = some ⟨oc_law_within, od_law_within, .func (PySem.W.fnOf "_law_within" "_law_within" (defArgs s_law_within) (defBody s_law_within) (defScope s_law_within) .none kV_law_within dc_law_within pm_law_within an_law_within cd_law_within ct_law_within), sl_law_within⟩) (c_law_within : PySem.W.codeIn K cd_law_within "_law_within" = true) (k_law_within : PySem.W.keepIn K (.ref f_law_within) = true)
    (a_law_codes : PySem.W.nsIn K mainGlobals "_law_codes" = some (some (.ref f_law_codes))) (l_law_codes : K.lookup f_law_codes = some ⟨oc_law_codes, od_law_codes, .func (PySem.W.fnOf "_law_codes" "_law_codes" (defArgs s_law_codes) (defBody s_law_codes) (defScope s_law_codes) .none kV_law_codes dc_law_codes pm_law_codes an_law_codes cd_law_codes ct_law_codes), sl_law_codes⟩) (c_law_codes : PySem.W.codeIn K cd_law_codes "_law_codes" = true) (k_law_codes : PySem.W.keepIn K (.ref f_law_codes) = true)
    (a_law_fours : PySem.W.nsIn K mainGlobals "_law_fours" = some (some (.ref f_law_fours))) (l_law_fours : K.lookup f_law_fours = some ⟨oc_law_fours, od_law_fours, .func (PySem.W.fnOf "_law_fours" "_law_fours" (defArgs s_law_fours) (defBody s_law_fours) (defScope s_law_fours) .none kV_law_fours dc_law_fours pm_law_fours an_law_fours cd_law_fours ct_law_fours), sl_law_fours⟩) (c_law_fours : PySem.W.codeIn K cd_law_fours "_law_fours" = true) (k_law_fours : PySem.W.keepIn K (.ref f_law_fours) = true)
    (a_law_cell_due : PySem.W.nsIn K mainGlobals "_law_cell_due" = some (some (.ref f_law_cell_due))) (l_law_cell_due : K.lookup f_law_cell_due = some ⟨oc_law_cell_due, od_law_cell_due, .func (PySem.W.fnOf "_law_cell_due" "_law_cell_due" (defArgs s_law_cell_due) (defBody s_law_cell_due) (defScope s_law_cell_due) .none kV_law_cell_due dc_law_cell_due pm_law_cell_due an_law_cell_due cd_law_cell_due ct_law_cell_due), sl_law_cell_due⟩) (c_law_cell_due : PySem.W.codeIn K cd_law_cell_due "_law_cell_due" = true) (k_law_cell_due : PySem.W.keepIn K (.ref f_law_cell_due) = true)
    (a_law_wrong_so : PySem.W.nsIn K mainGlobals "_law_wrong_so" = some (some (.ref f_law_wrong_so))) (l_law_wrong_so : K.lookup f_law_wrong_so = some ⟨oc_law_wrong_so, od_law_wrong_so, .func (PySem.W.fnOf "_law_wrong_so" "_law_wrong_so" (defArgs s_law_wrong_so) (defBody s_law_wrong_so) (defScope s_law_wrong_so) .none kV_law_wrong_so dc_law_wrong_so pm_law_wrong_so an_law_wrong_so (.ref cc_law_wrong_so) ct_law_wrong_so), sl_law_wrong_so⟩) (c_law_wrong_so : PySem.W.codeIn K (.ref cc_law_wrong_so) "_law_wrong_so" = true) (k_law_wrong_so : PySem.W.keepIn K (.ref f_law_wrong_so) = true)
    (a_law_codes_so : PySem.W.nsIn K mainGlobals "_law_codes_so" = some (some (.ref f_law_codes_so))) (l_law_codes_so : K.lookup f_law_codes_so = some ⟨oc_law_codes_so, od_law_codes_so, .func (PySem.W.fnOf "_law_codes_so" "_law_codes_so" (defArgs s_law_codes_so) (defBody s_law_codes_so) (defScope s_law_codes_so) .none kV_law_codes_so dc_law_codes_so pm_law_codes_so an_law_codes_so (.ref cc_law_codes_so) ct_law_codes_so), sl_law_codes_so⟩) (c_law_codes_so : PySem.W.codeIn K (.ref cc_law_codes_so) "_law_codes_so" = true) (k_law_codes_so : PySem.W.keepIn K (.ref f_law_codes_so) = true)
    (a_law : PySem.W.nsIn K mainGlobals "law" = some (some (.ref f_law))) (l_law : K.lookup f_law = some ⟨oc_law, od_law, .func (PySem.W.fnOf "law" "law" (defArgs s_law) (defBody s_law) (defScope s_law) .none kV_law dc_law pm_law an_law cd_law ct_law), sl_law⟩) (c_law : PySem.W.codeIn K cd_law "law" = true) (k_law : PySem.W.keepIn K (.ref f_law) = true)
    (n_abs : PySem.W.nsIn K mainGlobals "abs" = some none)
    (n_all : PySem.W.nsIn K mainGlobals "all" = some none)
    (n_bool : PySem.W.nsIn K mainGlobals "bool" = some none)
    (n_int : PySem.W.nsIn K mainGlobals "int" = some none)
    (n_isinstance : PySem.W.nsIn K mainGlobals "isinstance" = some none)
    (n_len : PySem.W.nsIn K mainGlobals "len" = some none)
    (n_list : PySem.W.nsIn K mainGlobals "list" = some none)
    (n_range : PySem.W.nsIn K mainGlobals "range" = some none)
    (n_str : PySem.W.nsIn K mainGlobals "str" = some none)
    (n_tuple : PySem.W.nsIn K mainGlobals "tuple" = some none)
    (n_zip : PySem.W.nsIn K mainGlobals "zip" = some none)
    {tk_MOST_WORD : Tok} (g_MOST_WORD : PySem.W.nsIn K mainGlobals "MOST_WORD" = some (some (.int 65535 tk_MOST_WORD)))
    (g_CODES : PySem.W.nsIn K mainGlobals "CODES" = some (some (.ref q_CODES)))
    {qi_CODES : Array Value} {qn_CODES : Nat} {qs_CODES : Array (Option Value)} (v_CODES : K.lookup q_CODES = some ⟨.type "tuple", none, .seq qi_CODES qn_CODES, qs_CODES⟩) (w_CODES : Vals [.str "fault", .str "halt", .str "high", .str "low", .str "add", .str "take", .str "load", .str "store", .str "jump", .str "ifzero", .str "call", .str "near", .str "jumpby", .str "callby", .str "back", .str "out"] qi_CODES.toList)
    (lc_law_wrong_so : K.lookup cc_law_wrong_so = some ⟨tcl_law_wrong_so, tcd_law_wrong_so, .fields tvs_law_wrong_so, tcs_law_wrong_so⟩) (tp_law_wrong_so : tvs_law_wrong_so[11]? = some (.ref pp_law_wrong_so)) (hd_law_wrong_so : PySem.W.codeHdIn K cc_law_wrong_so pp_law_wrong_so = true) (np_law_wrong_so : K.lookup pp_law_wrong_so = none) (tt_law_wrong_so : h.get? pp_law_wrong_so = some { cls := .none, data := .fields #[] })
    (lc_law_codes_so : K.lookup cc_law_codes_so = some ⟨tcl_law_codes_so, tcd_law_codes_so, .fields tvs_law_codes_so, tcs_law_codes_so⟩) (tp_law_codes_so : tvs_law_codes_so[11]? = some (.ref pp_law_codes_so)) (hd_law_codes_so : PySem.W.codeHdIn K cc_law_codes_so pp_law_codes_so = true) (np_law_codes_so : K.lookup pp_law_codes_so = none) (tt_law_codes_so : h.get? pp_law_codes_so = some { cls := .none, data := .fields #[] })
    (dd_0_1 : pp_law_wrong_so ≠ pp_law_codes_so)
    {E_ImageError : Addr} (eA_ImageError : PySem.W.nsIn K mainGlobals "ImageError" = some (some (.ref E_ImageError)))
    {E_Missing : Addr} (eA_Missing : PySem.W.nsIn K mainGlobals "Missing" = some (some (.ref E_Missing)))
    {E_InvalidName : Addr} (eA_InvalidName : PySem.W.nsIn K mainGlobals "InvalidName" = some (some (.ref E_InvalidName)))
    {E_InvalidNumber : Addr} (eA_InvalidNumber : PySem.W.nsIn K mainGlobals "InvalidNumber" = some (some (.ref E_InvalidNumber)))
    (nsS : PySem.W.nsIn K mainGlobals "super" = some none) (opq : PySem.W.nsIn K PySem.cStatics "thirdparty.any" = some none)
    (ei_InvalidName : PySem.W.findIn K (.ref E_InvalidName) "__init__" = some (some (.ref fi_InvalidName))) (el_InvalidName : K.lookup fi_InvalidName = some ⟨oc_InvalidName, od_InvalidName, .func (PySem.W.ksFn "__init__" "InvalidName.__init__" (defArgs s_E_InvalidName) (defBody s_E_InvalidName) (defScope s_E_InvalidName) .none kV_InvalidName dc_InvalidName pm_InvalidName an_InvalidName (.ref cda_InvalidName) ct_InvalidName cl_InvalidName), os_InvalidName⟩)
    (eco_InvalidName : PySem.W.codeIn K (.ref cda_InvalidName) "InvalidName.__init__" = true) (elc_InvalidName : K.lookup cda_InvalidName = some ⟨ccl_InvalidName, cdd_InvalidName, .fields vsC_InvalidName, ccs_InvalidName⟩) (ef_InvalidName : vsC_InvalidName[2]? = some (.str FL tf_InvalidName)) (ece_InvalidName : K.lookup cl_InvalidName = some ⟨ccv_InvalidName, cld_InvalidName, .cell (some (.ref E_InvalidName)), csl_InvalidName⟩) (ecl_InvalidName : PySem.W.clsIn K E_InvalidName = some cd_InvalidName)
    (eC_InvalidName : K.lookup E_InvalidName = some (excClassObj nm_InvalidName q_InvalidName E_InvalidName N_InvalidName bs_InvalidName bm_InvalidName true sn_InvalidName sub_InvalidName ab_InvalidName col_InvalidName dd_InvalidName k0_InvalidName k1_InvalidName k2_InvalidName k3_InvalidName k5_InvalidName "ValueError.__new__")) (erf_InvalidName : PySem.HandSPX.refsVE bm_InvalidName = true) (esa_InvalidName : PySem.W.findIn K (.ref E_InvalidName) "__setattr__" = some (some (.builtin "object.__setattr__"))) (eex_InvalidName : PySem.W.subIn K (.ref E_InvalidName) (.type "BaseException") = some true) (ety_InvalidName : PySem.W.typeIn K (.ref E_InvalidName) = some (.type "type")) (ek_InvalidName : PySem.W.keepIn K (.ref E_InvalidName) = true)
    (emr_InvalidName : PySem.W.mroIn K E_InvalidName (.ref E_InvalidName) = some true) (esI_InvalidName : PySem.W.ks_superIn K E_InvalidName E_InvalidName "__init__" = some (some (.builtin "ValueError.__init__"))) (eB_InvalidName : PySem.W.subIn K (.ref E_InvalidName) (.type "ValueError") = some true) (etI_InvalidName : PySem.W.typeIn K (.ref fi_InvalidName) = some (.type "function")) (emd_InvalidName : PySem.W.excInitIn K E_InvalidName (bmOf PySem.F.excBase_ValueError) "ValueError.__new__" = true) (exf_InvalidName : xfB K E_InvalidName = true)
    (en_InvalidName_value : PySem.W.findIn K (.ref E_InvalidName) "value" = some none)
    (en_InvalidName_code : PySem.W.findIn K (.ref E_InvalidName) "code" = some none)
    (ei_InvalidNumber : PySem.W.findIn K (.ref E_InvalidNumber) "__init__" = some (some (.ref fi_InvalidNumber))) (el_InvalidNumber : K.lookup fi_InvalidNumber = some ⟨oc_InvalidNumber, od_InvalidNumber, .func (PySem.W.ksFn "__init__" "InvalidNumber.__init__" (defArgs s_E_InvalidNumber) (defBody s_E_InvalidNumber) (defScope s_E_InvalidNumber) .none kV_InvalidNumber dc_InvalidNumber pm_InvalidNumber an_InvalidNumber (.ref cda_InvalidNumber) ct_InvalidNumber cl_InvalidNumber), os_InvalidNumber⟩)
    (eco_InvalidNumber : PySem.W.codeIn K (.ref cda_InvalidNumber) "InvalidNumber.__init__" = true) (elc_InvalidNumber : K.lookup cda_InvalidNumber = some ⟨ccl_InvalidNumber, cdd_InvalidNumber, .fields vsC_InvalidNumber, ccs_InvalidNumber⟩) (ef_InvalidNumber : vsC_InvalidNumber[2]? = some (.str FL tf_InvalidNumber)) (ece_InvalidNumber : K.lookup cl_InvalidNumber = some ⟨ccv_InvalidNumber, cld_InvalidNumber, .cell (some (.ref E_InvalidNumber)), csl_InvalidNumber⟩) (ecl_InvalidNumber : PySem.W.clsIn K E_InvalidNumber = some cd_InvalidNumber)
    (eC_InvalidNumber : K.lookup E_InvalidNumber = some (excClassObj nm_InvalidNumber q_InvalidNumber E_InvalidNumber N_InvalidNumber bs_InvalidNumber bm_InvalidNumber true sn_InvalidNumber sub_InvalidNumber ab_InvalidNumber col_InvalidNumber dd_InvalidNumber k0_InvalidNumber k1_InvalidNumber k2_InvalidNumber k3_InvalidNumber k5_InvalidNumber "ValueError.__new__")) (erf_InvalidNumber : PySem.HandSPX.refsVE bm_InvalidNumber = true) (esa_InvalidNumber : PySem.W.findIn K (.ref E_InvalidNumber) "__setattr__" = some (some (.builtin "object.__setattr__"))) (eex_InvalidNumber : PySem.W.subIn K (.ref E_InvalidNumber) (.type "BaseException") = some true) (ety_InvalidNumber : PySem.W.typeIn K (.ref E_InvalidNumber) = some (.type "type")) (ek_InvalidNumber : PySem.W.keepIn K (.ref E_InvalidNumber) = true)
    (emr_InvalidNumber : PySem.W.mroIn K E_InvalidNumber (.ref E_InvalidNumber) = some true) (esI_InvalidNumber : PySem.W.ks_superIn K E_InvalidNumber E_InvalidNumber "__init__" = some (some (.builtin "ValueError.__init__"))) (eB_InvalidNumber : PySem.W.subIn K (.ref E_InvalidNumber) (.type "ValueError") = some true) (etI_InvalidNumber : PySem.W.typeIn K (.ref fi_InvalidNumber) = some (.type "function")) (emd_InvalidNumber : PySem.W.excInitIn K E_InvalidNumber (bmOf PySem.F.excBase_ValueError) "ValueError.__new__" = true) (exf_InvalidNumber : xfB K E_InvalidNumber = true)
    (en_InvalidNumber_value : PySem.W.findIn K (.ref E_InvalidNumber) "value" = some none)
    (en_InvalidNumber_code : PySem.W.findIn K (.ref E_InvalidNumber) "code" = some none)
    (exm_InvalidName : PySem.W.exmAny K (.ref E_InvalidName) [.ref E_ImageError, .ref E_Missing] = some true)
    (exm_InvalidNumber : PySem.W.exmAny K (.ref E_InvalidNumber) [.ref E_ImageError, .ref E_Missing] = some true)
    : LawAtS l w K C8.CX0 12 63 "_law_script" mg fa h := by
  have e := hfa.symm.trans (PySem.W.mg_of X G a_law)
  cases e
  have F_is_word := fun_mk (st := s_is_word) l_is_word c_is_word k_is_word
  have F_is_number := fun_mk (st := s_is_number) l_is_number c_is_number k_is_number
  have F_cell_of : FunD K "cell_of" "cell_of" (defArgs s_cell_of) (defBody s_cell_of) (defScope s_cell_of) [.int 0, .int 0, .int 0] [] f_cell_of _ := ⟨⟨_, _, _, _, _, _, _, _, _, _, rfl, l_cell_of, c_cell_of, .inr ⟨(fun z => nomatch z), t_cell_of, _, ti_cell_of.toList, tn_cell_of, rfl, tl_cell_of, (by simp), tv_cell_of⟩, .inl rfl⟩, k_cell_of⟩
  have F_parted := fun_mk (st := s_parted) l_parted c_parted k_parted
  have F_with_part := fun_mk (st := s_with_part) l_with_part c_with_part k_with_part
  have F_law_bag := fun_mk (st := s_law_bag) l_law_bag c_law_bag k_law_bag
  have F_law_draw := fun_mk (st := s_law_draw) l_law_draw c_law_draw k_law_draw
  have F_law_of := fun_mk (st := s_law_of) l_law_of c_law_of k_law_of
  have F_law_same := fun_mk (st := s_law_same) l_law_same c_law_same k_law_same
  have F_law_field := fun_mk (st := s_law_field) l_law_field c_law_field k_law_field
  have F_law_try := fun_mk (st := s_law_try) l_law_try c_law_try k_law_try
  have F_law_why := fun_mk (st := s_law_why) l_law_why c_law_why k_law_why
  have F_law_whys := fun_mk (st := s_law_whys) l_law_whys c_law_whys k_law_whys
  have F_law_odd := fun_mk (st := s_law_odd) l_law_odd c_law_odd k_law_odd
  have F_law_number := fun_mk (st := s_law_number) l_law_number c_law_number k_law_number
  have F_law_within := fun_mk (st := s_law_within) l_law_within c_law_within k_law_within
  have F_law_codes := fun_mk (st := s_law_codes) l_law_codes c_law_codes k_law_codes
  have F_law_fours := fun_mk (st := s_law_fours) l_law_fours c_law_fours k_law_fours
  have F_law_cell_due := fun_mk (st := s_law_cell_due) l_law_cell_due c_law_cell_due k_law_cell_due
  have F_law_wrong_so := fun_mk (st := s_law_wrong_so) l_law_wrong_so c_law_wrong_so k_law_wrong_so
  have F_law_codes_so := fun_mk (st := s_law_codes_so) l_law_codes_so c_law_codes_so k_law_codes_so
  have F_law := fun_mk (st := s_law) l_law c_law k_law
  let Z : Fs := ⟨f_is_word, PySem.W.fnOf "is_word" "is_word" (defArgs s_is_word) (defBody s_is_word) (defScope s_is_word) .none kV_is_word dc_is_word pm_is_word an_is_word cd_is_word ct_is_word, f_is_number, PySem.W.fnOf "is_number" "is_number" (defArgs s_is_number) (defBody s_is_number) (defScope s_is_number) .none kV_is_number dc_is_number pm_is_number an_is_number cd_is_number ct_is_number, f_cell_of, PySem.W.fnOf "cell_of" "cell_of" (defArgs s_cell_of) (defBody s_cell_of) (defScope s_cell_of) (.ref t_cell_of) kV_cell_of dc_cell_of pm_cell_of an_cell_of cd_cell_of ct_cell_of, f_parted, PySem.W.fnOf "parted" "parted" (defArgs s_parted) (defBody s_parted) (defScope s_parted) .none kV_parted dc_parted pm_parted an_parted cd_parted ct_parted, f_with_part, PySem.W.fnOf "with_part" "with_part" (defArgs s_with_part) (defBody s_with_part) (defScope s_with_part) .none kV_with_part dc_with_part pm_with_part an_with_part cd_with_part ct_with_part, f_law_bag, PySem.W.fnOf "_law_bag" "_law_bag" (defArgs s_law_bag) (defBody s_law_bag) (defScope s_law_bag) .none kV_law_bag dc_law_bag pm_law_bag an_law_bag cd_law_bag ct_law_bag, f_law_draw, PySem.W.fnOf "_law_draw" "_law_draw" (defArgs s_law_draw) (defBody s_law_draw) (defScope s_law_draw) .none kV_law_draw dc_law_draw pm_law_draw an_law_draw cd_law_draw ct_law_draw, f_law_of, PySem.W.fnOf "_law_of" "_law_of" (defArgs s_law_of) (defBody s_law_of) (defScope s_law_of) .none kV_law_of dc_law_of pm_law_of an_law_of cd_law_of ct_law_of, f_law_same, PySem.W.fnOf "_law_same" "_law_same" (defArgs s_law_same) (defBody s_law_same) (defScope s_law_same) .none kV_law_same dc_law_same pm_law_same an_law_same cd_law_same ct_law_same, f_law_field, PySem.W.fnOf "_law_field" "_law_field" (defArgs s_law_field) (defBody s_law_field) (defScope s_law_field) .none kV_law_field dc_law_field pm_law_field an_law_field cd_law_field ct_law_field, f_law_try, PySem.W.fnOf "_law_try" "_law_try" (defArgs s_law_try) (defBody s_law_try) (defScope s_law_try) .none kV_law_try dc_law_try pm_law_try an_law_try cd_law_try ct_law_try, f_law_why, PySem.W.fnOf "_law_why" "_law_why" (defArgs s_law_why) (defBody s_law_why) (defScope s_law_why) .none kV_law_why dc_law_why pm_law_why an_law_why cd_law_why ct_law_why, f_law_whys, PySem.W.fnOf "_law_whys" "_law_whys" (defArgs s_law_whys) (defBody s_law_whys) (defScope s_law_whys) .none kV_law_whys dc_law_whys pm_law_whys an_law_whys cd_law_whys ct_law_whys, f_law_odd, PySem.W.fnOf "_law_odd" "_law_odd" (defArgs s_law_odd) (defBody s_law_odd) (defScope s_law_odd) .none kV_law_odd dc_law_odd pm_law_odd an_law_odd cd_law_odd ct_law_odd, f_law_number, PySem.W.fnOf "_law_number" "_law_number" (defArgs s_law_number) (defBody s_law_number) (defScope s_law_number) .none kV_law_number dc_law_number pm_law_number an_law_number cd_law_number ct_law_number, f_law_within, PySem.W.fnOf "_law_within" "_law_within" (defArgs s_law_within) (defBody s_law_within) (defScope s_law_within) .none kV_law_within dc_law_within pm_law_within an_law_within cd_law_within ct_law_within, f_law_codes, PySem.W.fnOf "_law_codes" "_law_codes" (defArgs s_law_codes) (defBody s_law_codes) (defScope s_law_codes) .none kV_law_codes dc_law_codes pm_law_codes an_law_codes cd_law_codes ct_law_codes, f_law_fours, PySem.W.fnOf "_law_fours" "_law_fours" (defArgs s_law_fours) (defBody s_law_fours) (defScope s_law_fours) .none kV_law_fours dc_law_fours pm_law_fours an_law_fours cd_law_fours ct_law_fours, f_law_cell_due, PySem.W.fnOf "_law_cell_due" "_law_cell_due" (defArgs s_law_cell_due) (defBody s_law_cell_due) (defScope s_law_cell_due) .none kV_law_cell_due dc_law_cell_due pm_law_cell_due an_law_cell_due cd_law_cell_due ct_law_cell_due, f_law_wrong_so, PySem.W.fnOf "_law_wrong_so" "_law_wrong_so" (defArgs s_law_wrong_so) (defBody s_law_wrong_so) (defScope s_law_wrong_so) .none kV_law_wrong_so dc_law_wrong_so pm_law_wrong_so an_law_wrong_so (.ref cc_law_wrong_so) ct_law_wrong_so, f_law_codes_so, PySem.W.fnOf "_law_codes_so" "_law_codes_so" (defArgs s_law_codes_so) (defBody s_law_codes_so) (defScope s_law_codes_so) .none kV_law_codes_so dc_law_codes_so pm_law_codes_so an_law_codes_so (.ref cc_law_codes_so) ct_law_codes_so, fa, PySem.W.fnOf "law" "law" (defArgs s_law) (defBody s_law) (defScope s_law) .none kV_law dc_law pm_law an_law cd_law ct_law, q_CODES⟩
  have T : Txt K w mg Z := ⟨F_is_word,
    PySem.W.mg_of X G a_is_word,
    F_is_word.binds (ps := ["value"]) fun _ _ _ _ _ _ us hl => match us, hl with | [_], _ => rfl,
    F_is_number,
    PySem.W.mg_of X G a_is_number,
    F_is_number.binds (ps := ["value", "least", "most"]) fun _ _ _ _ _ _ us hl => match us, hl with | [_, _, _], _ => rfl,
    F_cell_of,
    PySem.W.mg_of X G a_cell_of,
    kbn_d_cell_of_4 F_cell_of,
    kbn_d_cell_of_1_s F_cell_of,
    kbn_d_cell_of_1_part F_cell_of,
    kbn_d_cell_of_2 F_cell_of,
    kbn_d_cell_of_1 F_cell_of,
    kbn_d_cell_of_0_part_s_r_word F_cell_of,
    kbn_d_cell_of_0_r_s_part_word F_cell_of,
    F_parted,
    PySem.W.mg_of X G a_parted,
    F_parted.binds (ps := ["cell"]) fun _ _ _ _ _ _ us hl => match us, hl with | [_], _ => rfl,
    kbn_k_parted_0_cell F_parted,
    F_with_part,
    PySem.W.mg_of X G a_with_part,
    F_with_part.binds (ps := ["cell", "part"]) fun _ _ _ _ _ _ us hl => match us, hl with | [_, _], _ => rfl,
    kbn_k_with_part_0_part_cell F_with_part,
    F_law_bag,
    PySem.W.mg_of X G a_law_bag,
    F_law_bag.binds (ps := ["_law_script"]) fun _ _ _ _ _ _ us hl => match us, hl with | [_], _ => rfl,
    F_law_draw,
    PySem.W.mg_of X G a_law_draw,
    F_law_draw.binds (ps := ["_law_bag_here", "_law_sides"]) fun _ _ _ _ _ _ us hl => match us, hl with | [_, _], _ => rfl,
    F_law_of,
    PySem.W.mg_of X G a_law_of,
    F_law_of.binds (ps := ["_law_bag_here", "_law_things"]) fun _ _ _ _ _ _ us hl => match us, hl with | [_, _], _ => rfl,
    F_law_same,
    PySem.W.mg_of X G a_law_same,
    F_law_same.binds (ps := ["_law_found", "_law_due"]) fun _ _ _ _ _ _ us hl => match us, hl with | [_, _], _ => rfl,
    F_law_field,
    PySem.W.mg_of X G a_law_field,
    F_law_field.binds (ps := ["_law_e"]) fun _ _ _ _ _ _ us hl => match us, hl with | [_], _ => rfl,
    F_law_try,
    PySem.W.mg_of X G a_law_try,
    F_law_try.binds (ps := ["_law_ask"]) fun _ _ _ _ _ _ us hl => match us, hl with | [_], _ => rfl,
    F_law_why,
    PySem.W.mg_of X G a_law_why,
    F_law_why.binds (ps := ["_law_ask"]) fun _ _ _ _ _ _ us hl => match us, hl with | [_], _ => rfl,
    F_law_whys,
    PySem.W.mg_of X G a_law_whys,
    F_law_whys.binds (ps := ["_law_asks"]) fun _ _ _ _ _ _ us hl => match us, hl with | [_], _ => rfl,
    F_law_odd,
    PySem.W.mg_of X G a_law_odd,
    F_law_odd.binds (ps := ["_law_bag_here", "_law_more"]) fun _ _ _ _ _ _ us hl => match us, hl with | [_, _], _ => rfl,
    F_law_number,
    PySem.W.mg_of X G a_law_number,
    F_law_number.binds (ps := ["_law_bag_here"]) fun _ _ _ _ _ _ us hl => match us, hl with | [_], _ => rfl,
    F_law_within,
    PySem.W.mg_of X G a_law_within,
    F_law_within.binds (ps := ["_law_thing", "_law_low_y", "_law_high_y"]) fun _ _ _ _ _ _ us hl => match us, hl with | [_, _, _], _ => rfl,
    F_law_codes,
    PySem.W.mg_of X G a_law_codes,
    F_law_codes.binds (ps := []) fun _ _ _ _ _ _ us hl => match us, hl with | [], _ => rfl,
    F_law_fours,
    PySem.W.mg_of X G a_law_fours,
    F_law_fours.binds (ps := ["_law_number_y"]) fun _ _ _ _ _ _ us hl => match us, hl with | [_], _ => rfl,
    F_law_cell_due,
    PySem.W.mg_of X G a_law_cell_due,
    F_law_cell_due.binds (ps := ["_law_values"]) fun _ _ _ _ _ _ us hl => match us, hl with | [_], _ => rfl,
    F_law_wrong_so,
    PySem.W.mg_of X G a_law_wrong_so,
    F_law_wrong_so.binds (ps := ["_law_bag_here", "_law_own", "_law_a", "_law_b", "_law_c"]) fun _ _ _ _ _ _ us hl => match us, hl with | [_, _, _, _, _], _ => rfl,
    F_law_codes_so,
    PySem.W.mg_of X G a_law_codes_so,
    F_law_codes_so.binds (ps := ["_law_codes_here"]) fun _ _ _ _ _ _ us hl => match us, hl with | [_], _ => rfl,
    F_law,
    PySem.W.mg_of X G a_law,
    F_law.binds (ps := ["_law_script"]) fun _ _ _ _ _ _ us hl => match us, hl with | [_], _ => rfl,
    PySem.W.mg_none_of X G n_abs,
    PySem.W.mg_none_of X G n_all,
    PySem.W.mg_none_of X G n_bool,
    PySem.W.mg_none_of X G n_int,
    PySem.W.mg_none_of X G n_isinstance,
    PySem.W.mg_none_of X G n_len,
    PySem.W.mg_none_of X G n_list,
    PySem.W.mg_none_of X G n_range,
    PySem.W.mg_none_of X G n_str,
    PySem.W.mg_none_of X G n_tuple,
    PySem.W.mg_none_of X G n_zip,
    ⟨_, PySem.W.mg_of X G g_MOST_WORD⟩,
    PySem.W.mg_of X G g_CODES,
    fun _ => .inr ⟨_, _, _, v_CODES, rfl, rfl, (Nat.le_trans (Nat.le_of_eq (Array.length_toList.symm.trans w_CODES.length.symm)) (by show 16 ≤ sizeLine; decide)), w_CODES⟩,
    ⟨_, v_CODES, rfl, rfl⟩⟩
  have VE_InvalidName : ErrV K mg "InvalidName" "InvalidName.__init__" s_E_InvalidName E_InvalidName fi_InvalidName _ := ⟨PySem.W.mg_of X G eA_InvalidName, ⟨⟨_, _, _, _, _, _, _, _, _, _, _, _, _, _, _, eC_InvalidName, erf_InvalidName⟩, esa_InvalidName, eex_InvalidName, ety_InvalidName, ek_InvalidName⟩, ei_InvalidName, etI_InvalidName, _, _, _, _, _, _, _, _, _, _, _, _, el_InvalidName, rfl, ⟨eco_InvalidName, ⟨_, _, _, _, _, elc_InvalidName, ef_InvalidName⟩, ⟨_, _, _, ece_InvalidName⟩, ⟨_, ecl_InvalidName⟩, emr_InvalidName, PySem.W.mg_none_of X G nsS, ⟨_, rfl, rfl⟩, esI_InvalidName, eB_InvalidName, opq, emd_InvalidName⟩, PySem.F.excBase_ValueError⟩
  have VE_InvalidNumber : ErrV K mg "InvalidNumber" "InvalidNumber.__init__" s_E_InvalidNumber E_InvalidNumber fi_InvalidNumber _ := ⟨PySem.W.mg_of X G eA_InvalidNumber, ⟨⟨_, _, _, _, _, _, _, _, _, _, _, _, _, _, _, eC_InvalidNumber, erf_InvalidNumber⟩, esa_InvalidNumber, eex_InvalidNumber, ety_InvalidNumber, ek_InvalidNumber⟩, ei_InvalidNumber, etI_InvalidNumber, _, _, _, _, _, _, _, _, _, _, _, _, el_InvalidNumber, rfl, ⟨eco_InvalidNumber, ⟨_, _, _, _, _, elc_InvalidNumber, ef_InvalidNumber⟩, ⟨_, _, _, ece_InvalidNumber⟩, ⟨_, ecl_InvalidNumber⟩, emr_InvalidNumber, PySem.W.mg_none_of X G nsS, ⟨_, rfl, rfl⟩, esI_InvalidNumber, eB_InvalidNumber, opq, emd_InvalidNumber⟩, PySem.F.excBase_ValueError⟩
  have bI_InvalidName : L2.Binds K (PySem.W.ksFn "__init__" "InvalidName.__init__" (defArgs s_E_InvalidName) (defBody s_E_InvalidName) (defScope s_E_InvalidName) .none kV_InvalidName dc_InvalidName pm_InvalidName an_InvalidName (.ref cda_InvalidName) ct_InvalidName cl_InvalidName) ["self", "value"] [] := fun s us _ hl => match us, hl with | [_, _], _ => .of_eq rfl
  have bI_InvalidNumber : L2.Binds K (PySem.W.ksFn "__init__" "InvalidNumber.__init__" (defArgs s_E_InvalidNumber) (defBody s_E_InvalidNumber) (defScope s_E_InvalidNumber) .none kV_InvalidNumber dc_InvalidNumber pm_InvalidNumber an_InvalidNumber (.ref cda_InvalidNumber) ct_InvalidNumber cl_InvalidNumber) ["self", "value"] [] := fun s us _ hl => match us, hl with | [_, _], _ => .of_eq rfl
  have EC_InvalidName : EC K mg "InvalidName" "InvalidName.__init__" s_E_InvalidName ⟨E_InvalidName, "InvalidName", ["value"]⟩ fi_InvalidName _ := ⟨VE_InvalidName, bI_InvalidName, xfB_ok exf_InvalidName, en_InvalidName_code, (memc en_InvalidName_value mem0), _, _, PySem.W.mg_of X G eA_ImageError, PySem.W.mg_of X G eA_Missing, exm_InvalidName⟩
  have EC_InvalidNumber : EC K mg "InvalidNumber" "InvalidNumber.__init__" s_E_InvalidNumber ⟨E_InvalidNumber, "InvalidNumber", ["value"]⟩ fi_InvalidNumber _ := ⟨VE_InvalidNumber, bI_InvalidNumber, xfB_ok exf_InvalidNumber, en_InvalidNumber_code, (memc en_InvalidNumber_value mem0), _, _, PySem.W.mg_of X G eA_ImageError, PySem.W.mg_of X G eA_Missing, exm_InvalidNumber⟩
  let TT : List (Addr × Str) := [(pp_law_wrong_so, QL "_law_wrong_so"), (pp_law_codes_so, QL "_law_codes_so")]
  have hTT : ∀ H : Hp, (∀ p ∈ [(cc_law_wrong_so, pp_law_wrong_so), (cc_law_codes_so, pp_law_codes_so)], H p.2 = some (.tbl #[])) → Tabs TT H := fun H hH p hp => by
    rcases List.mem_cons.mp hp with rfl | hp
    · exact TabS.nil (hH (cc_law_wrong_so, pp_law_wrong_so) (by simp))
    rcases List.mem_cons.mp hp with rfl | hp
    · exact TabS.nil (hH (cc_law_codes_so, pp_law_codes_so) (by simp))
    cases hp
  have hm_law_wrong_so : (pp_law_wrong_so, QL "_law_wrong_so") ∈ TT := .head _
  have hu_law_wrong_so : ∀ p ∈ TT, p.1 = pp_law_wrong_so → p.2 = QL "_law_wrong_so" := fun p hp e => by
    rcases List.mem_cons.mp hp with rfl | hp
    · rfl
    rcases List.mem_cons.mp hp with rfl | hp
    · exact absurd e.symm dd_0_1
    cases hp
  have hm_law_codes_so : (pp_law_codes_so, QL "_law_codes_so") ∈ TT := .tail _ (.head _)
  have hu_law_codes_so : ∀ p ∈ TT, p.1 = pp_law_codes_so → p.2 = QL "_law_codes_so" := fun p hp e => by
    rcases List.mem_cons.mp hp with rfl | hp
    · exact absurd e dd_0_1
    rcases List.mem_cons.mp hp with rfl | hp
    · rfl
    cases hp
  refine ⟨Z.d_law, [(cc_law_wrong_so, pp_law_wrong_so), (cc_law_codes_so, pp_law_codes_so)], sp_law K TT, (fun p hp => by
    rcases List.mem_cons.mp hp with rfl | hp
    · exact tt_law_wrong_so
    rcases List.mem_cons.mp hp with rfl | hp
    · exact tt_law_codes_so
    cases hp), (fun p hp => by
    rcases List.mem_cons.mp hp with rfl | hp
    · exact np_law_wrong_so
    rcases List.mem_cons.mp hp with rfl | hp
    · exact np_law_codes_so
    cases hp), (fun p hp => by
    rcases List.mem_cons.mp hp with rfl | hp
    · exact PySem.W.codeHd_of_K X hd_law_wrong_so
    rcases List.mem_cons.mp hp with rfl | hp
    · exact PySem.W.codeHd_of_K X hd_law_codes_so
    cases hp), fun s v => .of_eq rfl, fun H a ns hl _ hH hS => ⟨a, ns, rfl, hS, hl, hTT H hH, fun _ => rfl⟩, fun base KB _ hTB => ?_⟩
  exact ok_law T ⟨PS, EC_InvalidName, EC_InvalidNumber⟩ rfl (hTB (cc_law_wrong_so, pp_law_wrong_so) (by simp)) hm_law_wrong_so hu_law_wrong_so rfl (hTB (cc_law_codes_so, pp_law_codes_so) (by simp)) hm_law_codes_so hu_law_codes_so
end Kk
open PySem PySem.W PyProof.Rows
set_option maxRecDepth 100000 in
set_option maxHeartbeats 0 in
theorem PySem.Challenge.cw_leastimage_k12_cells_apart_and_together_holds : PySem.Challenge.rw_leastimage_k12_cells_apart_and_together.Holds := by
  w_on; o_law; k_head; (case hw => w_witness2)
  k_fill
  refine LamX.walk_ofTs (l := PySem.Challenge.rw_leastimage_k12_cells_apart_and_together) (n := 63) (k := 12) (x := "_law_script") (CX := fun _ => C8.CX0) rfl (by decide) rfl ⟨rfl, by decide, by decide⟩ (fun w h Y => PySem.W.km_in_of Y) ?F (fun _ _ _ _ _ h => h)
  case F =>
    intro w mg fa h Y KX G hmg
    have tabs := PySem.W.km_tabs_of Y
    refine' Kk.all_mkE ⟨by first | rfl | decide +kernel, by first | rfl | decide +kernel⟩ KX G hmg ?a_is_word ?l_is_word ?c_is_word ?k_is_word ?a_is_number ?l_is_number ?c_is_number ?k_is_number ?a_cell_of ?l_cell_of ?c_cell_of ?k_cell_of ?tl_cell_of ?tv_cell_of ?a_parted ?l_parted ?c_parted ?k_parted ?a_with_part ?l_with_part ?c_with_part ?k_with_part ?a_law_bag ?l_law_bag ?c_law_bag ?k_law_bag ?a_law_draw ?l_law_draw ?c_law_draw ?k_law_draw ?a_law_of ?l_law_of ?c_law_of ?k_law_of ?a_law_same ?l_law_same ?c_law_same ?k_law_same ?a_law_field ?l_law_field ?c_law_field ?k_law_field ?a_law_try ?l_law_try ?c_law_try ?k_law_try ?a_law_why ?l_law_why ?c_law_why ?k_law_why ?a_law_whys ?l_law_whys ?c_law_whys ?k_law_whys ?a_law_odd ?l_law_odd ?c_law_odd ?k_law_odd ?a_law_number ?l_law_number ?c_law_number ?k_law_number ?a_law_within ?l_law_within ?c_law_within ?k_law_within ?a_law_codes ?l_law_codes ?c_law_codes ?k_law_codes ?a_law_fours ?l_law_fours ?c_law_fours ?k_law_fours ?a_law_cell_due ?l_law_cell_due ?c_law_cell_due ?k_law_cell_due ?a_law_wrong_so ?l_law_wrong_so ?c_law_wrong_so ?k_law_wrong_so ?a_law_codes_so ?l_law_codes_so ?c_law_codes_so ?k_law_codes_so ?a_law ?l_law ?c_law ?k_law ?n_abs ?n_all ?n_bool ?n_int ?n_isinstance ?n_len ?n_list ?n_range ?n_str ?n_tuple ?n_zip ?g_MOST_WORD ?g_CODES ?v_CODES ?w_CODES ?lc_law_wrong_so ?tp_law_wrong_so ?hd_law_wrong_so ?np_law_wrong_so ?tt_law_wrong_so ?lc_law_codes_so ?tp_law_codes_so ?hd_law_codes_so ?np_law_codes_so ?tt_law_codes_so ?dd_0_1 ?eA_ImageError ?eA_Missing ?eA_InvalidName ?eA_InvalidNumber ?nsS ?opq ?ei_InvalidName ?el_InvalidName ?eco_InvalidName ?elc_InvalidName ?ef_InvalidName ?ece_InvalidName ?ecl_InvalidName ?eC_InvalidName ?erf_InvalidName ?esa_InvalidName ?eex_InvalidName ?ety_InvalidName ?ek_InvalidName ?emr_InvalidName ?esI_InvalidName ?eB_InvalidName ?etI_InvalidName ?emd_InvalidName ?exf_InvalidName ?en_InvalidName_value ?en_InvalidName_code ?ei_InvalidNumber ?el_InvalidNumber ?eco_InvalidNumber ?elc_InvalidNumber ?ef_InvalidNumber ?ece_InvalidNumber ?ecl_InvalidNumber ?eC_InvalidNumber ?erf_InvalidNumber ?esa_InvalidNumber ?eex_InvalidNumber ?ety_InvalidNumber ?ek_InvalidNumber ?emr_InvalidNumber ?esI_InvalidNumber ?eB_InvalidNumber ?etI_InvalidNumber ?emd_InvalidNumber ?exf_InvalidNumber ?en_InvalidNumber_value ?en_InvalidNumber_code ?exm_InvalidName ?exm_InvalidNumber
    (case a_is_word => k_is)
    (case l_is_word => k_is)
    (case c_is_word => k_is)
    (case k_is_word => k_is)
    (case a_is_number => k_is)
    (case l_is_number => k_is)
    (case c_is_number => k_is)
    (case k_is_number => k_is)
    (case a_cell_of => k_is)
    (case l_cell_of => k_is)
    (case c_cell_of => k_is)
    (case k_cell_of => k_is)
    (case tl_cell_of => k_is)
    (case tv_cell_of => exact (.cons ⟨_, rfl⟩ (.cons ⟨_, rfl⟩ (.cons ⟨_, rfl⟩ .nil))))
    (case a_parted => k_is)
    (case l_parted => k_is)
    (case c_parted => k_is)
    (case k_parted => k_is)
    (case a_with_part => k_is)
    (case l_with_part => k_is)
    (case c_with_part => k_is)
    (case k_with_part => k_is)
    (case a_law_bag => k_is)
    (case l_law_bag => k_is)
    (case c_law_bag => k_is)
    (case k_law_bag => k_is)
    (case a_law_draw => k_is)
    (case l_law_draw => k_is)
    (case c_law_draw => k_is)
    (case k_law_draw => k_is)
    (case a_law_of => k_is)
    (case l_law_of => k_is)
    (case c_law_of => k_is)
    (case k_law_of => k_is)
    (case a_law_same => k_is)
    (case l_law_same => k_is)
    (case c_law_same => k_is)
    (case k_law_same => k_is)
    (case a_law_field => k_is)
    (case l_law_field => k_is)
    (case c_law_field => k_is)
    (case k_law_field => k_is)
    (case a_law_try => k_is)
    (case l_law_try => k_is)
    (case c_law_try => k_is)
    (case k_law_try => k_is)
    (case a_law_why => k_is)
    (case l_law_why => k_is)
    (case c_law_why => k_is)
    (case k_law_why => k_is)
    (case a_law_whys => k_is)
    (case l_law_whys => k_is)
    (case c_law_whys => k_is)
    (case k_law_whys => k_is)
    (case a_law_odd => k_is)
    (case l_law_odd => k_is)
    (case c_law_odd => k_is)
    (case k_law_odd => k_is)
    (case a_law_number => k_is)
    (case l_law_number => k_is)
    (case c_law_number => k_is)
    (case k_law_number => k_is)
    (case a_law_within => k_is)
    (case l_law_within => k_is)
    (case c_law_within => k_is)
    (case k_law_within => k_is)
    (case a_law_codes => k_is)
    (case l_law_codes => k_is)
    (case c_law_codes => k_is)
    (case k_law_codes => k_is)
    (case a_law_fours => k_is)
    (case l_law_fours => k_is)
    (case c_law_fours => k_is)
    (case k_law_fours => k_is)
    (case a_law_cell_due => k_is)
    (case l_law_cell_due => k_is)
    (case c_law_cell_due => k_is)
    (case k_law_cell_due => k_is)
    (case a_law_wrong_so => k_is)
    (case l_law_wrong_so => k_is)
    (case c_law_wrong_so => k_is)
    (case k_law_wrong_so => k_is)
    (case a_law_codes_so => k_is)
    (case l_law_codes_so => k_is)
    (case c_law_codes_so => k_is)
    (case k_law_codes_so => k_is)
    (case a_law => k_is)
    (case l_law => k_is)
    (case c_law => k_is)
    (case k_law => k_is)
    (case n_abs => k_is)
    (case n_all => k_is)
    (case n_bool => k_is)
    (case n_int => k_is)
    (case n_isinstance => k_is)
    (case n_len => k_is)
    (case n_list => k_is)
    (case n_range => k_is)
    (case n_str => k_is)
    (case n_tuple => k_is)
    (case n_zip => k_is)
    (case g_MOST_WORD => k_is)
    (case g_CODES => k_is)
    (case v_CODES => k_is)
    (case w_CODES => exact (.cons ⟨_, rfl⟩ (.cons ⟨_, rfl⟩ (.cons ⟨_, rfl⟩ (.cons ⟨_, rfl⟩ (.cons ⟨_, rfl⟩ (.cons ⟨_, rfl⟩ (.cons ⟨_, rfl⟩ (.cons ⟨_, rfl⟩ (.cons ⟨_, rfl⟩ (.cons ⟨_, rfl⟩ (.cons ⟨_, rfl⟩ (.cons ⟨_, rfl⟩ (.cons ⟨_, rfl⟩ (.cons ⟨_, rfl⟩ (.cons ⟨_, rfl⟩ (.cons ⟨_, rfl⟩ .nil)))))))))))))))))
    (case lc_law_wrong_so => k_is)
    (case tp_law_wrong_so => exact rfl)
    (case hd_law_wrong_so => kernel_rfl)
    (case np_law_wrong_so => kernel_rfl)
    (case tt_law_wrong_so => exact tabs _ (by k_mem))
    (case lc_law_codes_so => k_is)
    (case tp_law_codes_so => exact rfl)
    (case hd_law_codes_so => kernel_rfl)
    (case np_law_codes_so => kernel_rfl)
    (case tt_law_codes_so => exact tabs _ (by k_mem))
    (case dd_0_1 => decide)
    (case eA_ImageError => k_is)
    (case eA_Missing => k_is)
    (case eA_InvalidName => k_is)
    (case eA_InvalidNumber => k_is)
    (case nsS => k_is)
    (case opq => k_is)
    (case ei_InvalidName => k_is)
    (case el_InvalidName => k_is)
    (case eco_InvalidName => k_is)
    (case elc_InvalidName => k_is)
    (case ef_InvalidName => exact rfl)
    (case ece_InvalidName => k_is)
    (case ecl_InvalidName => k_is)
    (case eC_InvalidName => k_is)
    (case erf_InvalidName => kernel_rfl)
    (case esa_InvalidName => k_is)
    (case eex_InvalidName => k_is)
    (case ety_InvalidName => k_is)
    (case ek_InvalidName => k_is)
    (case emr_InvalidName => k_is)
    (case esI_InvalidName => ks_is)
    (case eB_InvalidName => k_is)
    (case etI_InvalidName => k_is)
    (case emd_InvalidName => kx_is)
    (case exf_InvalidName => kernel_rfl)
    (case en_InvalidName_value => k_is)
    (case en_InvalidName_code => k_is)
    (case ei_InvalidNumber => k_is)
    (case el_InvalidNumber => k_is)
    (case eco_InvalidNumber => k_is)
    (case elc_InvalidNumber => k_is)
    (case ef_InvalidNumber => exact rfl)
    (case ece_InvalidNumber => k_is)
    (case ecl_InvalidNumber => k_is)
    (case eC_InvalidNumber => k_is)
    (case erf_InvalidNumber => kernel_rfl)
    (case esa_InvalidNumber => k_is)
    (case eex_InvalidNumber => k_is)
    (case ety_InvalidNumber => k_is)
    (case ek_InvalidNumber => k_is)
    (case emr_InvalidNumber => k_is)
    (case esI_InvalidNumber => ks_is)
    (case eB_InvalidNumber => k_is)
    (case etI_InvalidNumber => k_is)
    (case emd_InvalidNumber => kx_is)
    (case exf_InvalidNumber => kernel_rfl)
    (case en_InvalidNumber_value => k_is)
    (case en_InvalidNumber_code => k_is)
    (case exm_InvalidName => kernel_rfl)
    (case exm_InvalidNumber => kernel_rfl)

