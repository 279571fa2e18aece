import PyProof.Rows.All
import Wide.All
import OpenK.AllK
import Wide.FinOn
import HandS.Conv
import HandS.Deep
import HandS.DictComp
import HandS.DictTup
import HandS.Evl
import HandS.ExcInit
import HandS.ExcIs
import HandS.FStr
import HandS.ForExc
import HandS.ForMost
import HandS.IsInst
import HandS.Iter
import HandS.ListItems
import HandS.More
import HandS.Nested
import HandS.SortInts
import HandS.SortRule
import HandS.Style
import HandS.TryMany
import HandS.TupAny
import HandS.TupLen
import HandS.TupSets
import HandS.Walk
import HandS.WideBits
import KE.KDictWalk
import KE.KExcSuper
import KE.KSuper
import PyProof.ReprRoads
import PyProof.Rows.ChunkEnd
import PyProof.StrOps2
import PySem.Challenge.RW_keptbywitness_k42_cut_on_schedule
set_option Elab.async false
set_option linter.all false
set_option maxRecDepth 100000
set_option maxHeartbeats 4000000
/-! X1: an own exception class whose __init__ says super().__init__(..) and stores one field. -/
namespace Xs
open PySem PySem.Spec PyProof.Rows L2 NdefX

section
variable {X : Cx} {pins : List (Addr × Obj)} {σ : L2.St} {H : Hp} {s : Shared}
/-- an object just made may be pinned -/
theorem pin_new {o : Obj} {tk : Nat} (I : Inv X pins σ H s) (hf : o.isFreed = false) (hd : ∀ v, o.data ≠ .cell v) :
    Inv X ((s.heap.objs.size, o) :: pins) σ H { s with heap := s.heap.push o, toks := tk } := by
  have k : ∀ b u, s.heap.get? b = some u → (s.heap.push o).get? b = some u := fun b u e => Heap.get?_push_of_some _ e
  have J : Inv X pins σ H { s with heap := s.heap.push o, toks := tk } := I.kept k
  refine ⟨J.ok, J.os, J.bare, J.base, J.loc, J.cell, J.free, J.freeC, ?_, J.hok, J.len⟩
  intro p hp
  rw [List.mem_append, List.mem_cons] at hp
  rcases hp with h | rfl | h
  · exact J.pin p (List.mem_append_left _ h)
  · refine ⟨Heap.get?_push_size _ hf, I.hok.fresh (Nat.le_refl _), Nat.ne_of_gt I.lt, I.nofs (Nat.le_refl _), hd⟩
  · exact J.pin p (List.mem_append_right _ h)
end
abbrev vei : String := "ValueError.__init__"
abbrev clo (cc : Addr) : List (Str × Addr) := [("__class__", cc)]
/-- what is known of the class's own def and of its class -/
structure SupF (P : Program) (K : PySem.W.Frag) (C fI cc cda : Addr) (qual : Str) (params : Arguments) (body : List Stmt) (scope : Scope) (fd : FuncData) : Prop where
  fn : ∃ (oc : Value) (od : Option Addr) (osl : Array (Option Value)) (kV doc pm : Value) (an : Option Addr) (ct : Value), fd = PySem.W.fnX "__init__" qual params body scope (clo cc) .none kV doc pm an (.ref cda) ct ∧ K.lookup fI = some ⟨oc, od, .func fd, osl⟩
  code : PySem.W.codeIn K (.ref cda) qual = true
  cell : ∃ (cl : Value) (cld : Option Addr) (csl : Array (Option Value)), K.lookup cc = some ⟨cl, cld, .cell (some (.ref C)), csl⟩
  file : ∃ (ccl : Value) (cdd : Option Addr) (vs : Array Value) (ccs : Array (Option Value)) (file : Str) (tf : Tok), K.lookup cda = some ⟨ccl, cdd, .fields vs, ccs⟩ ∧ vs[2]? = some (.str file tf) ∧ ((P.main.file : Str) == file) = true
  top : (P.main.scope.names.lookup ("super" : Str)).isSome = false
  sub : PySem.W.mroIn K C (.ref C) = some true
  sup : PySem.W.ks_superIn K C C "__init__" = some (some (.builtin vei))
  ve : PySem.W.subIn K (.ref C) (.type "ValueError") = some true
  any : PySem.W.nsIn K cStatics "thirdparty.any" = some none
section
variable {X : Cx} {pins : List (Addr × Obj)} {σ : L2.St} {H : Hp} {s : Shared} {C fI cc cda a : Addr} {qual : Str} {params : Arguments} {body : List Stmt} {scope : Scope} {fd : FuncData}
/-- the call of the bound __init__ -/
theorem mw_call {u : Addr} {us : List Value} {Q : Value → Shared → Prop} (T : OexC X.K C) (I : Inv X pins σ H s) (e : H a = some (exo a C none)) (hu : s.heap.get? u = some (PySem.W.kxs_mw vei a)) (hl : us.length ≤ sizeLine)
    (h : ∀ s', Inv X pins σ H s' → Q .none s') : wpAny (model X.prog X.w) X.A (call (.ref u) us) Q X.xe s := by
  obtain ⟨nm, q, N, bs, bm, sn, sub, ab, col, dd, k0, k1, k2, k3, k5, hC, hbm⟩ := T.cls
  obtain ⟨t1, ho⟩ := exo_at I.hok e
  obtain ⟨hp, g, d, t, os⟩ := s
  have fin : ∀ (h' : Heap) (n : Addr), (∀ b o, b ≠ a → hp.get? b = some o → h'.get? b = some o) → h'.get? a = some (PySem.HandSPX.excO C n) → Q .none ⟨h', g, d, t, os⟩ := fun h' n k hx => by
    have J := I.write (t' := t) (x := a) (e := a) (o := exo a C none) (by rw [e]; exact True.intro) (.inl rfl) k ⟨_, hx⟩ (exo_ok hx)
    have eu : upd H a (exo a C none) = H := funext fun b => by
      by_cases hb : b = a
      · rw [hb, upd_same, e]
      · rw [upd_ne hb]
    rw [eu] at J
    exact h _ J
  refine wpAny_call (codeAny_of_tree (?_ : wpAny _ X.A.in1 (callAny (.ref u) ⟨us, []⟩) _ _ _))
  unfold callAny; refine wpAny_bind (wpAny_load hu ?_)
  have mw1 : ((Value.type "method-wrapper") == (Value.type "method") || (Value.type "method-wrapper") == (Value.type "builtin_function_or_method") || (Value.type "method-wrapper") == (Value.type "method-wrapper")) = true := by decide
  simp only [PySem.W.kxs_mw, mw1, if_true]
  refine PySem.W.KFB.if_so (by decide) (wpAny_bind (PySem.W.check_bound_init F.excBase_ValueError.toExcCallFacts (I.kIn _ _ hC) ho rfl (wpAny_bind (wpAny_pure (wpAny_pure ?_)))))
  refine ⟨plainId_quiet F.excBase_ValueError.init.plain _, codeAny_builtin F.excBase_ValueError.initEntry ?_⟩
  exact PySem.W.exc_init_tree (cls := .ref C) (t0 := t1) (dv := none) (c2 := .none) (c3 := .none) (b4 := .bool false) ho hl fun h' k hx _ => fin h' _ k hx
/-- super().__init__(e) -/
theorem sup_st {CX : CXT} {P : Program} {w : World} {K : PySem.W.Frag} {mg : Str → Option Value} {base : Heap} {N : List Str} {A : Around} {outer : List Env} {s0 : Shared} {H0 : Hp} {E0 : XK} {p0 p1 p2 p3 : Pos} {e : Expr} {te : TA} {ar : Arg} {σ : L2.St} {H : Hp} {s : Shared}
    (S : SupF P K C fI cc cda qual params body scope fd) (T : OexC K C) (hp : (params.posonlyargs ++ params.args).head? = some ar) (hk : scope.kind = .function) (hks : scope.names.lookup ("super" : Str) = some .globalImplicit) (hkc : scope.names.lookup ("__class__" : Str) = some .free) (hka : scope.names.lookup ar.arg = some .local)
    (hs : mg "super" = none) (hN : N[0]? = some ar.arg)
    (I : Inv (ncx CX P w K mg base N ⟨"__init__", qual, params, body, scope, clo cc, cda⟩ fI A outer s0 H0 E0) [] σ H s) (h0 : σ[0]? = some (some (.ref a))) (ea : H a = some (exo a C none))
    (he : PA (ncx CX P w K mg base N ⟨"__init__", qual, params, body, scope, clo cc, cda⟩ fI A outer s0 H0 E0) [e] te) (hte : te σ H fun vs H1 => vs.length ≤ 1000 ∧ H1 = H)
    {pl : Sem Bool} (hc : eval (.Call (.Attribute (.Call (.Name "super" p0) [] [] p1) "__init__" p2) [e] [] p3) (PySem.W.envX qual scope s0.heap.objs.size fI (.ref cda) (clo cc)) = (do
      let ov ← attributeBase (.Call (.Name "super" p0) [] [] p1) "__init__" (PySem.W.envX qual scope s0.heap.objs.size fI (.ref cda) (clo cc)) (eval (.Call (.Name "super" p0) [] [] p1) (PySem.W.envX qual scope s0.heap.objs.size fI (.ref cda) (clo cc)))
      standAt p2.atName
      let (f, first) ← holding [ov] (getMethod ov "__init__" pl)
      callWith p3 f first (backTo p3 (starEach [e] (PySem.W.envX qual scope s0.heap.objs.size fI (.ref cda) (clo cc)))) []))
    (hst : starEach [e] (PySem.W.envX qual scope s0.heap.objs.size fI (.ref cda) (clo cc)) = (false, eval e (PySem.W.envX qual scope s0.heap.objs.size fI (.ref cda) (clo cc))) :: starEach [] (PySem.W.envX qual scope s0.heap.objs.size fI (.ref cda) (clo cc)) := by rfl) :
    PySem.wpAt (model P w) (A.deeper (PySem.W.envX qual scope s0.heap.objs.size fI (.ref cda) (clo cc))) (.func body (PySem.W.envX qual scope s0.heap.objs.size fI (.ref cda) (clo cc)))
      (eval (.Call (.Attribute (.Call (.Name "super" p0) [] [] p1) "__init__" p2) [e] [] p3) (PySem.W.envX qual scope s0.heap.objs.size fI (.ref cda) (clo cc)))
      (fun _ s' => Inv (ncx CX P w K mg base N ⟨"__init__", qual, params, body, scope, clo cc, cda⟩ fI A outer s0 H0 E0) [] σ H s') (ncx CX P w K mg base N ⟨"__init__", qual, params, body, scope, clo cc, cda⟩ fI A outer s0 H0 E0).xe s := by
  obtain ⟨oc, od, osl, kV, doc, pm, an, ct, rfl, hf⟩ := S.fn
  obtain ⟨cl, cld, csl, hcell⟩ := S.cell
  obtain ⟨ccl, cdd, vs, ccs, file, tf, hcode, hvs, hfile⟩ := S.file
  obtain ⟨nm, q, Nn, bs, bm, sn, sub, ab, col, dd, k0, k1, k2, k3, k5, hC, hbm⟩ := T.cls
  have kin := I.kIn
  obtain ⟨t1, ho⟩ := exo_at I.hok ea
  obtain ⟨m, hns, hlook⟩ := I.loc
  obtain ⟨u0, ru, hu0⟩ := hlook 0 ar.arg (.ref a) hN h0 (.inl hka)
  obtain rfl : u0 = Value.ref a := ru
  have hm : m ar.arg = some (.ref a) := by
    rcases hu0 with ⟨_, h⟩ | ⟨h, _⟩
    · exact h
    · rcases h with h | h
      · exact absurd (hka.symm.trans h) (fun z => nomatch z)
      · exact absurd (hka.symm.trans h) (fun z => nomatch z)
  obtain ⟨mb, hb1, hb2⟩ := I.mod.blt
  obtain ⟨hh, g, d, t, os⟩ := s
  refine PySem.ks_wpAt_MethodCall (pl := pl) ?_ hc
  refine PySem.ks_wpAt_super_base (env := PySem.W.envX qual scope s0.heap.objs.size fI (.ref cda) (clo cc)) hks hkc rfl rfl (kin _ _ hf) rfl hp rfl (kin _ _ hcode) rfl hvs hfile S.top ?_
  refine PySem.W.ks_loadName_global hk hks (Calls.loadGlobal_builtin (by exact I.mod.glob.keeps I.bk) hs (by exact hb1.keeps I.bk) ((hb2 "super" (by decide)).trans (by decide +kernel)) ⟨rfl, ?_⟩)
  refine wpAny_loadName_free hk hkc rfl ⟨_, kin _ _ hcell, rfl⟩ ?_
  refine wpAny_loadName_local hk hka hns hm ?_
  refine PySem.ks_wpAny_isType_cls (kin _ _ hC) rfl ⟨rfl, ?_⟩
  refine PySem.ks_wpAny_call_super (kin _ _ hC) rfl ho rfl (fun c z => nomatch z) (PySem.W.looks_mroIn kin S.sub) (fun h' es k => ?_)
  have J := I.kept (s := ⟨hh, g, d, t, os⟩) (t' := t) (h' := h') k
  have kin' := J.kIn
  have hcls : PySem.W.clsIn K C = some { name := nm, bases := bs, mro := .ref C :: bm, ns := Nn, qualname := q, hasDict := true, slotNames := sn, subclasses := sub, abstract := ab, collection := col, hasDel := false } := by
    unfold PySem.W.clsIn
    rw [hC] <;> rfl
  have hsup := S.sup
  unfold PySem.W.ks_superIn at hsup
  rw [hcls] at hsup
  have IA : PySem.W.InstAt h' a (PySem.HandSPX.excO C t1) C none := ⟨k _ _ ho, rfl, rfl, trivial⟩
  refine PySem.W.kxs_getMethod PySem.W.kxs_ValueError es (PySem.W.looks_opaque kin' S.any) (l₀ := .ref C :: bm) (fun A Q E s k q => wpAny_bind ((PySem.W.looks_clsIn kin' hcls) A _ E s k (wpAny_pure q))) rfl kin' hsup (IA.type.andThen (PySem.W.looks_subIn kin' S.ve)) (PySem.W.ks_ne kin' IA hcls) rfl ?_
  have J2 := pin_new (o := PySem.W.kxs_mw vei a) (tk := t + 1) J rfl (fun v z => nomatch z)
  have hu := Heap.get?_push_size h' (o := PySem.W.kxs_mw vei a) rfl
  have hbn : base.get? h'.objs.size = none := by
    cases e : base.get? h'.objs.size with
    | none => rfl
    | some o => exact absurd (Heap.lt_size (J.bk _ _ e)) (Nat.lt_irrefl _)
  have NW : PyProof.Rows.News base (h'.objs.size + 1) (h'.push (PySem.W.kxs_mw vei a)) [(h'.objs.size, PySem.W.kxs_mw vei a)] := fun p hp => by
    obtain rfl := List.mem_singleton.mp hp
    exact ⟨hu, Nat.ne_of_lt (Nat.lt_succ_self _), hbn⟩
  refine PySem.W.kxs_callWith1 NW (List.mem_singleton.mpr rfl) (thn (he.run p3 [(h'.objs.size, PySem.W.kxs_mw vei a)] _ σ H (fun vs H1 => vs.length ≤ 1000 ∧ H1 = H) J2 hte) fun us s1 ⟨vs', H1, I1, r1, hl, eH⟩ => ?_) hst rfl
  subst eH
  have pu := (I1.pin (h'.objs.size, PySem.W.kxs_mw vei a) (List.mem_append_right _ (List.mem_singleton.mpr rfl))).1
  refine ⟨pu, mw_call T I1 ea pu (by rw [← r1.length, sizeLine_eq]; omega) fun s' J3 => ?_⟩
  exact ⟨J3.ok, J3.os, J3.bare, J3.base, J3.loc, J3.cell, J3.free, J3.freeC, fun p hp => J3.pin p (List.mem_append_left _ (by simpa using hp)), J3.hok, J3.len⟩
/-- the promise of the class's __init__(self, x) that stores x as f -/
def spSup (C : Addr) (f : Str) : Sp := fun vs H Q _ => ∃ (a : Addr) (z : Str), vs = [.ref a, .str z] ∧ z.length ≤ 100 ∧ H a = some (exo a C none) ∧
  ∀ dx, H dx = none → dx ≠ a → Q .non (upd (upd H dx (exd dx [(f, .str z)])) a (exo a C (some dx)))
abbrev supB (p0 p1 p2 p3 p4 q0 q1 q2 q3 : Pos) (e : Expr) (n x f : Str) : List Stmt := [.Expr (.Call (.Attribute (.Call (.Name "super" p0) [] [] p1) "__init__" p2) [e] [] p3) p4, .Assign [.Attribute (.Name n q0) f q1] (.Name x q2) q3]
theorem sup_fn {CX : CXT} {P : Program} {w : World} {K : PySem.W.Frag} {mg : Str → Option Value} {base : Heap} {p0 p1 p2 p3 p4 q0 q1 q2 q3 : Pos} {e : Expr} {x f : Str} {ar : Arg} {te : TA}
    (S : SupF P K C fI cc cda qual params (supB p0 p1 p2 p3 p4 q0 q1 q2 q3 e ar.arg x f) scope fd) (T : OexC K C) (hno : PySem.W.findIn K (.ref C) f = some none)
    (sc : NScope [ar.arg, x, "__class__"] [ar.arg, x] ["__class__"] scope) (hp : (params.posonlyargs ++ params.args).head? = some ar) (hks : scope.names.lookup ("super" : Str) = some .globalImplicit) (hs : mg "super" = none)
    (he : ∀ Y : Cx, Y.N = [ar.arg, x, "__class__"] → Y.env.scope = scope → PA Y [e] te) (hte : ∀ (a : Addr) (z : Str) (H : Hp), z.length ≤ 100 → te [some (.ref a), some (.str z), none] H fun vs H1 => vs.length ≤ 1000 ∧ H1 = H)
    (hc : ∀ env : Env, ∃ pl : Sem Bool, eval (.Call (.Attribute (.Call (.Name "super" p0) [] [] p1) "__init__" p2) [e] [] p3) env = (do
      let ov ← attributeBase (.Call (.Name "super" p0) [] [] p1) "__init__" env (eval (.Call (.Name "super" p0) [] [] p1) env)
      standAt p2.atName
      let (f, first) ← holding [ov] (getMethod ov "__init__" pl)
      callWith p3 f first (backTo p3 (starEach [e] env)) []))
    (hst : ∀ env : Env, starEach [e] env = (false, eval e env) :: starEach [] env) (hsw : ∀ env : Env, swapsWith (.Call (.Attribute (.Call (.Name "super" p0) [] [] p1) "__init__" p2) [e] [] p3) none p4.line env = pure false)
    (hsw2 : ∀ env : Env, swapsWith (.Name x q2) (some (.Attribute (.Name ar.arg q0) f q1)) q3.line env = pure false)
    (hn : (ar.arg == ("__debug__" : Str)) = false ∧ (ar.arg == ("__classdict__" : Str)) = false ∧ (x == ("__debug__" : Str)) = false ∧ (x == ("__classdict__" : Str)) = false) :
    FnOk P w K mg base CX 1 fI fd [ar.arg, x] (spSup C f) := by
  have hkc : scope.names.lookup ("__class__" : Str) = some .free := sc.frk _ (by simp)
  have hka : scope.names.lookup ar.arg = some .local := sc.par _ (by simp)
  have hkx : scope.names.lookup x = some .local := sc.par _ (by simp)
  refine ⟨fun vs H Q E h => ?_, fun A outer s H args us vs Q E hr e0 hb r hsp => ?_⟩
  · obtain ⟨a, z, rfl, _⟩ := h
    rfl
  obtain ⟨a, z, rfl, hz, ea, q⟩ := hsp
  have KX : K.In s.heap := e0.mod.kin.keeps fun b o e => (e0.bs b o e).1
  have lim : s.heap.NoLimit := e0.mod.nolimit.keeps fun b o e => (e0.bs b o e).1
  obtain ⟨oc, od, osl, kV, doc, pm, an, ct, hfd, hf⟩ := S.fn
  obtain ⟨cl, cld, csl, hcell⟩ := S.cell
  have S' := S
  subst hfd
  have bk0 : ∀ b o, K.lookup b = some o → H b = none := fun b o z => (e0.bs b o (e0.mod.kin _ _ z)).2
  have CA : CellsAt (clo cc) ["__class__"] [none] s.heap H := by
    refine ⟨rfl, fun y c hy => ?_, fun y y' c h1 h2 => ?_, fun i y hi => ?_⟩
    · have : c = cc := by
        unfold clo at hy
        rw [List.lookup_cons] at hy
        split at hy
        · exact (Option.some.inj hy).symm
        · cases hy
      subst this
      exact ⟨bk0 _ _ hcell, _, _, KX _ _ hcell, rfl⟩
    · have one : ∀ y c, (clo cc).lookup y = some c → y = "__class__" := fun y c hy => by
        unfold clo at hy
        rw [List.lookup_cons] at hy
        split at hy
        · rename_i e
          exact beq_iff_eq.mp e
        · cases hy
      rw [one _ _ h1, one _ _ h2]
    · match i, hi with
      | 0, hi =>
        cases hi
        exact ⟨cc, rfl, fun v hv => by cases hv⟩
      | i + 1, hi => simp at hi
  have hin : ∀ env : Env, env.scope = scope → interactive env = false := fun env he => by
    unfold interactive
    rw [he, sc.kind]
    rfl
  refine PySem.ks_codeAny_call_defAt (body := (supB p0 p1 p2 p3 p4 q0 q1 q2 q3 e ar.arg x f)) (binds := List.zip [ar.arg, x] us) hr.depth (KX _ _ hf) rfl lim (PySem.W.codeRec_of KX S.code) rfl hb sc.nocell (fun y hy => sc.par _ (List.of_mem_zip hy).1) (fun h₁ hns hk₁ => ?_) sc.co sc.gen sc.kind
  have I : Inv (ncx CX P w K mg base [ar.arg, x, "__class__"] ⟨"__init__", qual, params, (supB p0 p1 p2 p3 p4 q0 q1 q2 q3 e ar.arg x f), scope, clo cc, cda⟩ fI A outer s H E) [] [some (.ref a), some (.str z), none] H { s with heap := h₁, toks := s.toks + (List.zip [ar.arg, x] us).length } :=
    inv_startN (F := ⟨"__init__", qual, params, (supB p0 p1 p2 p3 p4 q0 q1 q2 q3 e ar.arg x f), scope, clo cc, cda⟩) sc hr.hd e0 rfl r CA hns hk₁
  refine PySem.ks_wpAt_execs_cons (PySem.ks_wpAt_Expr_any ?_ (hin _ rfl) (hsw _))
  obtain ⟨pl, hcl⟩ := hc (PySem.W.envX qual scope s.heap.objs.size fI (.ref cda) (clo cc))
  refine PySem.ks_wpAt_mono (sup_st S' T hp sc.kind hks hkc hka hs rfl I rfl ea (he _ rfl rfl) (hte a z H hz) hcl (hst _)) (fun v s' J => ?_) (fun _ _ h => h)
  have ost := (pss_one (ps_ost (f := f) (p' := q1) (pos := q3) (pe_var (X := ncx CX P w K mg base [ar.arg, x, "__class__"] ⟨"__init__", qual, params, (supB p0 p1 p2 p3 p4 q0 q1 q2 q3 e ar.arg x f), scope, clo cc, cda⟩ fI A outer s H E) (i := 0) (pos := q0) rfl (.inl hka) (hd := hn.1) (hcd := hn.2.1)) (pe_var (i := 1) (pos := q2) rfl (.inl hkx) (hd := hn.2.2.1) (hcd := hn.2.2.2)) (hsw2 _))).run [] s' _ H { nx := fun _ H' => Q .non H', rt := Q } J ?_
  · refine wpAt_of_wpAny (wpAny_mono ost (fun fl s2 hs2 => ?_) fun _ _ h => h)
    cases fl with
    | ret u =>
      obtain ⟨v, σ', H', J2, rv, q2⟩ := hs2
      exact ⟨v, H', J2.os, J2.bare, J2.base, J2.hok, rv, q2⟩
    | next =>
      obtain ⟨σ', H', J2, q2⟩ := hs2
      exact ⟨.non, H', J2.os, J2.bare, J2.base, J2.hok, rfl, q2⟩
    | brk =>
      obtain ⟨_, _, _, q2⟩ := hs2
      exact False.elim q2
    | cont =>
      obtain ⟨_, _, _, q2⟩ := hs2
      exact False.elim q2
  · exact ⟨_, rfl, _, rfl, a, C, rfl, T, hno, .inl ⟨ea, fun dx n ne => q dx n ne⟩⟩
end
end Xs
set_option Elab.async false
set_option linter.all false
set_option maxRecDepth 100000
set_option maxHeartbeats 4000000
/-! X2: several except clauses, each with a name or without; a class made by an __init__ that may raise, in a try; what a caught error tells of itself. -/
namespace Xs
open PySem PySem.Spec PyProof.Rows L2

abbrev Suite := Addr → Value → Option Addr → TS
/-- behind a suite that held the error in slot i -/
abbrev endsOff (D : Ends) (i : Nat) : Ends := { nx := fun τ G => D.nx (τ.set i none) G, rt := D.rt, bk := fun τ G => D.bk (τ.set i none) G, ct := fun τ G => D.ct (τ.set i none) G }
def wMix (K : PySem.W.Frag) (Wout : WX) (D : Ends) : List (Value × Option Nat × Suite) → WX
  | [] => Wout
  | (c, o, ts) :: r => fun cls d σ H => ∃ b, PySem.W.exmOne K cls c = some b ∧
      (b = true → ∀ a, H a = none → match o with
        | none => ts a cls d D σ H
        | some i => ts a cls d (endsOff D i) (σ.set i (some (.ref a))) H) ∧ (b = false → wMix K Wout D r cls d σ H)
/-- the clauses' suites keep what is read of them -/
inductive Clauses (X : Cx) : List ExceptHandler → List (Value × Option Nat × Suite) → Prop
  | nil : Clauses X [] []
  | plain {x : Str} {c : Value} {ts : Suite} {b₀ : Stmt} {suite : List Stmt} {np q : Pos} {hs : List ExceptHandler} {l : List (Value × Option Nat × Suite)} (hc : Names X x c)
      (run : ∀ (a : Addr) (oe : Obj) (cls : Value) (d : Option Addr) (pn : List (Addr × Obj)), Zc cls d oe → (∃ vs, oe.data = .fields vs) → PSs (X.suite a ((a, oe) :: pn)) (b₀ :: suite) (ts a cls d)) (rest : Clauses X hs l) :
      Clauses X (.ExceptHandler (some (.Name x np)) none (b₀ :: suite) q :: hs) ((c, none, ts) :: l)
  | named {x n : Str} {i : Nat} {c : Value} {ts : Suite} {b₀ : Stmt} {suite : List Stmt} {np q : Pos} {hs : List ExceptHandler} {l : List (Value × Option Nat × Suite)} (hc : Names X x c) (slot : X.N[i]? = some n) (isloc : X.env.kindOf n = some .local)
      (run : ∀ (a : Addr) (oe : Obj) (cls : Value) (d : Option Addr) (pn : List (Addr × Obj)), Zc cls d oe → (∃ vs, oe.data = .fields vs) → PSs (X.suite a ((a, oe) :: pn)) (b₀ :: suite) (ts a cls d)) (rest : Clauses X hs l) :
      Clauses X (.ExceptHandler (some (.Name x np)) (some n) (b₀ :: suite) q :: hs) ((c, some i, ts) :: l)
section
variable {X : Cx} {body : List Stmt} {e₀ : ExceptHandler} {hds : List ExceptHandler} {l : List (Value × Option Nat × Suite)} {pos : Pos} {tb : WX → TS} {Wout : WX}
theorem ps_try_mix (stk : X.stack = X.env :: X.outer) (fr : X.env.frame = some X.env.locals) (nd : X.N.Nodup) (out : Takes X Wout)
    (inner : ∀ (W : WX) (pn : List (Addr × Obj)) (xe : Value → Shared → Prop), Takes (X.tr pn xe) W → PassesOwn (model X.prog X.w) X.A X.env xe → PSs (X.tr pn xe) body (tb W))
    (cls0 : Clauses X (e₀ :: hds) l) : PS X (.Try body (e₀ :: hds) [] [] pos) (fun D σ H => tb (wMix X.K Wout D l) D σ H) := by
  constructor
  intro pins s σ H D I start
  have ok := I.ok
  have frs1 : X.A.frames = some (X.env :: X.outer) := ok.frames.trans (congrArg some stk)
  let after : Value → Shared → Prop := fun e u1 => wpAny (model X.prog X.w) X.A (noteFrame e X.env) (fun _ u2 => wpAny (model X.prog X.w) X.A (setFlight e none) (fun _ u3 => wpAny (model X.prog X.w) X.A (handleBy e X.env (e₀ :: hds)) (SP X pins D) X.xe u3) X.xe u2) X.xe u1
  have run0 := (inner (wMix X.K Wout D l) (X.pn ++ pins) after ?caught PassesOwn.looking).run [] s σ H D (I.toTry _) start
  · refine wpAny_Try_except (wpAny_mono run0 (fun fl s1 done => ?_) (fun _ _ z => z))
    match fl, done with
    | .next, ⟨τ, G, J, q⟩ => exact wpAny_execs_nil ⟨τ, G, J.ofTry ok, q⟩
    | .brk, ⟨τ, G, J, q⟩ => exact ⟨τ, G, J.ofTry ok, q⟩
    | .cont, ⟨τ, G, J, q⟩ => exact ⟨τ, G, J.ofTry ok, q⟩
    | .ret u, ⟨v, τ, G, J, r, q⟩ => exact ⟨v, τ, G, J.ofTry ok, r, q⟩
  · intro u sx xx
    obtain ⟨a, B, sI, pins1, τ, G, cls, d, rfl, J0, nb, up, sky, na, os, ag, wish⟩ := xx
    have J : Inv X pins τ G sI := J0.ofTry ok
    rw [show (X.tr (X.pn ++ pins) after).stack = X.env :: X.outer from stk] at sky
    show wpAny _ _ (noteFrame _ _) _ _ _
    refine Sky.land Zc.steady frs1 fr sky fun hq fly upq => ?_
    have Jq : Inv X pins τ G { sx with heap := hq } := J.landed nb fly.1 (up.trans upq) os ag
    obtain ⟨oq, vq, eq, zq, dq⟩ := fly.there
    have apart : a ∉ frs (X.env :: X.outer) := by
      intro hm
      obtain ⟨_, o', e', no⟩ := fly.2.2.1.mem hm
      obtain rfl := Option.some.inj (eq.symm.trans e')
      exact no _ dq
    have aL : a ≠ X.env.locals := by
      rintro rfl
      exact apart (List.mem_filterMap.mpr ⟨X.env, List.mem_cons_self, fr⟩)
    have aF : a ∉ X.fs := by
      intro hm
      obtain ⟨e, he, q⟩ := List.mem_filterMap.mp hm
      exact apart (List.mem_filterMap.mpr ⟨e, .tail _ he, q⟩)
    have Sq := Jq.suite eq dq na aL aF
    have name : ∀ {x : Str} {c : Value} {np : Pos} {Q : Value → Shared → Prop} {E : Value → Shared → Prop}, Names X x c → Q c { sx with heap := hq } → wpAny (model X.prog X.w) (X.A.mark (some (.ref a))) (eval (.Name x np) X.env) Q E { sx with heap := hq } := by
      intro x c np Q E nm q
      obtain ⟨g, dbg, m | ⟨m, bv, nn⟩⟩ := nm
      · exact ld_glob (X := X.suite a ((a, oq) :: (X.pn ++ pins))) Sq g m q dbg
      · exact ld_blt (X := X.suite a ((a, oq) :: (X.pn ++ pins))) Sq g m bv q nn dbg
    have kind : PySem.W.Looks (model X.prog X.w) hq (typeOf (.ref a)) cls := fun _ _ _ _ k q => wpAny_typeOf_ref (k _ _ eq) (by rw [zq.1]; exact q)
    suffices go : ∀ {hs : List ExceptHandler} {m : List (Value × Option Nat × Suite)}, Clauses X hs m → wMix X.K Wout D m cls d τ G → wpAny (model X.prog X.w) X.A (handleBy (.ref a) X.env hs) (SP X pins D) X.xe { sx with heap := hq } from go cls0 wish
    intro hs m C
    induction C with
    | nil =>
      intro w
      obtain ⟨k1, k2, k3, oe, vs, T, oT, t1, he, hz, hd, h1, hr⟩ := id fly
      have leave : wpAny (model X.prog X.w) X.A (setFlight (.ref a) X.env.frame) (fun _ s4 => wpAny (model X.prog X.w) X.A (throw (.ref a) : Sem Flow) (SP X pins D) X.xe s4) X.xe { sx with heap := hq } := by
        rw [fr]
        refine HandSPX.setFlight_upZ fly fun h4 sky4 up4 => wpAny_throw (out _ _ ⟨a, B, sI, pins, τ, G, cls, d, rfl, J, nb, (up.trans upq).trans up4, .inr (.inr ?_), na, os, ag, w⟩)
        rw [stk]
        exact sky4
      refine wpAny_handleBy_nil ?_
      unfold PySem.passOn
      refine wpAny_bind (wpAny_field he hd h1 ?_)
      have nn : ¬ ((Value.ref T == Value.none) = true) := by simp
      rw [if_neg nn]
      first | exact wpAny_bind leave | exact wpAny_bind (wpAny_pure (wpAny_bind leave))
    | @plain x c ts b₀ suite np q hs2 m2 hc run rest ih =>
      rintro ⟨b, hb, yes, no⟩
      refine wpAny_handleBy_cons (codeAny_handlers_test (name hc ((PySem.W.exm_one (M := model X.prog X.w) Jq.kIn kind hb).here ?_))) (by intro z; cases z)
      cases b with
      | false => exact ih (no rfl)
      | true =>
        refine codeAny_handlers_suite (HandSPX.lands_againZ fly fun hr fly4 up4 => ?_)
        have J4 : Inv X pins τ G { sx with heap := hr } := J.landed nb fly4.1 ((up.trans upq).trans up4) os ag
        obtain ⟨o4, v4, e4, z4, d4⟩ := fly4.there
        refine wpAny_mono ((run a o4 cls d (X.pn ++ pins) z4 ⟨_, d4⟩).run [] _ _ G _ (J4.suite e4 d4 na aL aF) (yes rfl a na)) (fun fl s6 r6 => ?_) (fun _ _ z => z.elim)
        match fl, r6 with
        | .next, ⟨_, _, S6, q6⟩ => exact ⟨_, _, S6.unsuite ok, q6⟩
        | .brk, ⟨_, _, S6, q6⟩ => exact ⟨_, _, S6.unsuite ok, q6⟩
        | .cont, ⟨_, _, S6, q6⟩ => exact ⟨_, _, S6.unsuite ok, q6⟩
        | .ret u, ⟨_, _, _, S6, r, q6⟩ => exact ⟨_, _, _, S6.unsuite ok, r, q6⟩
    | @named x n i c ts b₀ suite np q hs2 m2 hc slot isloc run rest ih =>
      rintro ⟨b, hb, yes, no⟩
      refine wpAny_handleBy_cons (codeAny_handlers_test (name hc ((PySem.W.exm_one (M := model X.prog X.w) Jq.kIn kind hb).here ?_))) (by intro z; cases z)
      cases b with
      | false => exact ih (no rfl)
      | true =>
        refine codeAny_handlers_suite_as (HandSPX.lands_againZ fly fun hr fly4 up4 => ?_)
        have J4 : Inv X pins τ G { sx with heap := hr } := J.landed nb fly4.1 ((up.trans upq).trans up4) os ag
        obtain ⟨o4, v4, e4, z4, d4⟩ := fly4.there
        refine store_ok (X := X.suite a ((a, o4) :: (X.pn ++ pins))) (v := .ref a) (J4.suite e4 d4 na aL aF) nd slot (.inl isloc) rfl (fun s5 S5 => ?_) (.inr isloc)
        refine wpAny_mono ((run a o4 cls d (X.pn ++ pins) z4 ⟨_, d4⟩).run [] s5 _ G _ S5 (yes rfl a na)) (fun fl s6 r6 => ?_) (fun _ _ z => z.elim)
        have off : ∀ {τ6 : L2.St} {G6 : Hp} {Q : Shared → Prop}, Inv (X.suite a ((a, o4) :: (X.pn ++ pins))) [] τ6 G6 s6 → (∀ s7, Inv X pins (τ6.set i none) G6 s7 → Q s7) → wpAny (model X.prog X.w) X.A (do bindName X.env n .none; unbindBehindTheSuite X.env n q) (fun _ s7 => Q s7) X.xe s6 :=
          fun {τ6 G6 Q} S6 k => gone_ok (S6.unsuite ok) nd slot isloc k
        match fl, r6 with
        | .next, ⟨_, _, S6, q6⟩ => exact off S6 fun s7 J7 => ⟨_, _, J7, q6⟩
        | .brk, ⟨_, _, S6, q6⟩ => exact off S6 fun s7 J7 => ⟨_, _, J7, q6⟩
        | .cont, ⟨_, _, S6, q6⟩ => exact off S6 fun s7 J7 => ⟨_, _, J7, q6⟩
        | .ret u, ⟨_, _, _, S6, r, q6⟩ => exact off S6 fun s7 J7 => ⟨_, _, _, J7, r, q6⟩
end
end Xs
set_option Elab.async false
set_option linter.all false
set_option maxRecDepth 100000
set_option maxHeartbeats 4000000
/-! X3: xs[:n] = ys; a class whose __init__ may raise, made in a try; a field of an error that a suite holds. -/
namespace Xs
open PySem PySem.Spec PyProof.Rows L2

section
variable {prog : Program} {w : World} {A : Around} {E : Value → Shared → Prop} {s : Shared}
theorem upto_bounds {c n : Nat} (h : c ≤ n) : sliceBounds none (some (c : Int)) none n = (0, (c : Int), 1) := by
  have nn : ¬ ((c : Int) < 0) := by omega
  simp only [sliceBounds, Option.getD_none, nn, if_false, show (1 : Int) > 0 by decide, if_true]
  congr 2
  omega
/-- list.__setitem__ with the slice [:c] and another list -/
theorem head_set {l b sl : Addr} {old new : Array Value} {n n2 : Nat} {vu : Value} {c : Nat} {Q : Unit → Shared → Prop}
    (e1 : s.heap.get? l = some { cls := .type "list", data := .seq old n }) (e2 : s.heap.get? b = some { cls := .type "list", data := .seq new n2 }) (ne : l ≠ b)
    (so : s.heap.IsSliceOf sl .none vu .none) (pu : IsPart vu (some (c : Int))) (hc : c ≤ old.size) (fits : old.size + new.size ≤ sizeLine)
    (h : Q () { s with heap := s.heap.update l (Obj.mapSeq fun xs => xs.extract 0 0 ++ new ++ xs.extract c xs.size) }) : wpAny (model prog w) A (setItem (.ref l) (.ref sl) (.ref b)) Q E s := by
  have il : s.heap.IsList l old := PySem.IsL.isList e1
  have ib : s.heap.IsList b new := PySem.IsL.isList e2
  obtain ⟨osl, hosl, csl, dsl⟩ := id so
  have tsl : s.TypeIs (.ref sl) "slice" := ⟨osl, hosl, csl⟩
  have step0 : ¬ ((rawPart none == rawInt 0) = true) := Bool.false_ne_true
  have other : Builtin.List.listSameRef (.ref l) (.ref b) = false := by unfold Builtin.List.listSameRef; exact beq_eq_false_iff_ne.mpr ne
  have top : (max (0 : Int) (c : Int)).toNat = c := by omega
  have size' : ((fun xs : Array Value => xs.extract 0 0 ++ new ++ xs.extract c xs.size) old).size ≤ sizeLine + 1 := by simp only [Array.size_append, Array.size_extract]; omega
  unfold setItem
  try with_reducible refine wpAny_holding ?_
  first | refine wpAny_bind (wpAny_pure ?_) | skip
  refine wpAny_bind (wpAny_sequenceKey il.typeIs (by decide) (wpAny_bind (wpAny_callSpecial?_slot (name := Str.ofString "__setitem__") il.typeIs slot_list_setitem (wpAny_call_entry slot_list_setitem il.typeIs entry_list_setitem ?_ (args_list_setitem _ _ _)))))
  show wpAny _ _ (Builtin.List.listSubscript? (.ref sl) >>= _) _ _ _
  refine wpAny_bind ?_
  unfold Builtin.List.listSubscript?
  refine wpAny_bind (wpAny_specialOf tsl slice_no_index ?_)
  simp only [Option.isNone_none, if_true]
  refine wpAny_pure (?_ : wpAny _ _ (typeOf (.ref sl) >>= _) _ _ _)
  refine wpAny_bind (wpAny_typeOf tsl ?_)
  first | rw [if_neg (by decide)] | refine PySem.W.KFB.if_not (by decide) ?_
  rw [listSliceParts_eq]
  refine wpAny_bind (wpAny_bind (wpAny_field hosl dsl (x := .none) rfl (wpAny_bind (wpAny_listPart .none ?_)))); rw [if_neg step0]
  refine wpAny_bind (wpAny_field hosl dsl (x := .none) rfl (wpAny_bind (wpAny_listPart .none (wpAny_bind (wpAny_field hosl dsl (x := vu) rfl (wpAny_bind (wpAny_listPart pu (wpAny_pure ?_))))))))
  first
    | simp only [other, Bool.false_eq_true, if_false]
    | refine PySem.W.KFB.if_not other ?_
    | (dsimp only; rw [if_neg (by rw [other]; exact Bool.false_ne_true)])
  refine wpAny_bind (m := Builtin.List.listAllItems (.ref b) "must assign iterable to extended slice") ?_
  unfold Builtin.List.listAllItems; refine wpAny_bind (wpAny_typeOf ib.typeIs ?_)
  first
    | refine PySem.W.KFB.if_so (by decide) ?_
    | rw [if_pos (by decide)]
    | simp only [beq_self_eq_true, Bool.true_or, if_true]
  unfold Builtin.List.listItems; refine wpAny_bind (wpAny_seqItems e2 rfl (wpAny_pure (wpAny_bind (wpAny_bind (wpAny_seqItems e1 rfl (wpAny_pure ?_))))))
  refine wpAny_bind (wpAny_of_eq ((sliceIndices_raw none (some (c : Int)) none old.size (by simp)).trans (congrArg (pure : Int × Int × Int → Sem (Int × Int × Int)) (upto_bounds hc))) ?_)
  show wpAny _ _ (if ((1 : Int) == 1) = true then _ else _) _ _ _
  rw [if_pos (by decide)]; refine wpAny_bind (wpAny_rule ?_)
  first
    | simp only [notLongL fits, Bool.false_eq_true, if_false]
    | refine PySem.W.KFB.if_not (notLongL fits) ?_
  first | refine wpAny_bind (wpAny_pure ?_) | skip
  show wpAny _ _ (updateSeq l (fun xs => xs.extract 0 ((0 : Int)).toNat ++ new ++ xs.extract (max (0 : Int) (c : Int)).toNat xs.size) >>= _) _ _ _
  rw [top, show ((0 : Int)).toNat = 0 from rfl]
  refine wpAny_bind (wpAny_updateSeq (hz := Nat.le_trans (Nat.le_add_right _ _) fits) (_hz' := size') e1 rfl (wpAny_bind (wpAny_letGo ?_)))
  first
    | exact wpAny_bind (wpAny_pure (wpAny_pure ⟨.none, rfl, wpAny_pure h⟩))
    | exact wpAny_pure ⟨.none, rfl, wpAny_pure h⟩
end
section
variable {X : Cx} {e o hi : Expr} {te to th : TE} {p2 p3 pos : Pos}
/-- the target o[:hi] -/
def gHead (to th : TE) : TG := fun y σ H Q => to σ H fun x H2 => tPart th σ H2 fun z H3 => ∃ (l b : Addr) (xs ys : List V) (c : Nat), x = .ref l ∧ y = .ref b ∧ z = some (c : Int) ∧ H3 l = some (.lst xs) ∧ H3 b = some (.lst ys) ∧ l ≠ b ∧
  c ≤ xs.length ∧ xs.length + ys.length ≤ sizeLine ∧ Q σ (upd H3 l (.lst (ys ++ xs.drop c)))
theorem pg_head (ho : PE X o to) (hh : PE X hi th) (ha : ∀ v, assign (.Subscript o (.Slice none (some hi) none p2) p3) X.env v = (do
      let x ← holding [v] (eval o X.env)
      let y ← holding [v, x] (eval (.Slice none (some hi) none p2) X.env)
      standAt p3
      holding [v, x, y] (setItem x y v)
      release [y, v, x] []) := by intro _; rfl) : PG X (.Subscript o (.Slice none (some hi) none p2) p3) (gHead to th) := by
  constructor
  intro pins s σ H v u Q I r h
  rw [ha]
  refine wpAny_bind (wpAny_holding (thn (ho.run pins s σ H _ I h) fun ov s1 ⟨x, H1, I1, r1, h1⟩ => wpAny_bind (wpAny_holding ?_)))
  refine wpAny_Slice (thn ((po_none (X := X)).run pins s1 σ H1 (fun q G => q = none ∧ G = H1) I1 ⟨rfl, rfl⟩) fun vl s2 ⟨oq, G, I2, pl, eo, eG⟩ => ?_)
  subst eo eG
  cases pl
  refine thn ((po_some hh).run pins s2 σ _ _ I2 h1) fun vu s3 ⟨u3, H3, I3, pu, l, b, xs, ys, c, ex, ey, ez, hl, hb, ne, hc, hz, q⟩ => ?_
  subst ex ey ez
  obtain rfl : ov = Value.ref l := r1
  obtain rfl : u = Value.ref b := r
  rw [evalPart_none]
  have I4 := I3.kept (t' := s3.toks) (h' := s3.heap.push { cls := .type "slice", data := .fields #[.none, vu, .none] }) fun w ow e => Heap.get?_push_of_some _ e
  obtain ⟨z1, its, n, rv, ll, e1⟩ := I4.lstM hl
  obtain ⟨z2, its2, n2, rv2, ll2, e2⟩ := I4.lstM hb
  refine wpAny_pure (wpAny_bind (wpAny_standAt (wpAny_bind (wpAny_holding (head_set (c := c) e1 e2 ne (Heap.IsSliceOf.new ..) pu (by rw [List.size_toArray]; omega) (by rw [List.size_toArray, List.size_toArray]; omega) (wpAny_release ?_))))))
  refine ⟨σ, _, I4.lset (its' := its2 ++ its.drop c) (t' := s3.toks) hl e1 ?_ (Vals.append rv2 (rv.drop _)) ?_, q⟩
  · have := splice_eq its its2 0 c
    simpa using this
  · rw [List.length_append, List.length_drop]
    omega
/-! ### a class whose __init__ may raise, made in a try -/
variable {es : List Expr} {t : TA} {C f : Addr} {x : Str} {p : Pos} {CX : CXT} {k : Nat} {fd : FuncData} {ps : List Str} {sp : Sp} {W : L2.St → XK}
def tMakeS (C : Addr) (sp : Sp) (W : L2.St → XK) (t : TA) : TE := fun σ H Q => t σ H fun vs H1 => ∀ x dx, H1 x = none → H1 dx = none → dx ≠ x → sp (.ref x :: vs) (upd (upd H1 dx (.own x)) x (.ins C dx [])) (fun v H2 => v = .non ∧ Q (.ref x) H2) (W σ)
theorem pe_makeS (M : Mk X.K C f) (F : FnOk X.prog X.w X.K X.mg X.base CX k f fd ps sp) (hr : Room (k + 1) X.A) (hg : Gl X x) (hm : X.mg x = some (.ref C)) (hb : Binds X.K fd ps []) (hx : ∀ σ, PassesAt CX X σ (W σ)) (ha : PA X (e :: es) t)
    (hdb : (x == ("__debug__" : Str)) = false := by decide) (hst : starEach (e :: es) X.env = (false, eval e X.env) :: starEach es X.env := by rfl) (hpl : (backTo pos (starEach es X.env)).any (·.1) = false := by rfl) :
    PE X (.Call (.Name x p) (e :: es) [] pos) (tMakeS C sp W t) := by
  constructor
  intro pins s σ H Q I h
  refine wpAny_Call_Name_kw (ld_glob I hg hm (PySem.W.callWith_K (h₀ := X.base) I.ok.mod.kin M.kp (thn (ha.run pos pins s σ H _ I h) fun us s1 ⟨vs, H1, I1, r, q⟩ => ⟨I1.kIn, ?_⟩) hst hpl) hdb)
  show wpAny _ _ (call (.ref C) us) _ _ _
  have want := q (s1.heap.objs.size + 1) s1.heap.objs.size (I1.hok.fresh (Nat.le_succ _)) (I1.hok.fresh (Nat.le_refl _)) (Nat.ne_of_lt (Nat.lt_succ_self _))
  have J := Inv.made (C := C) I1
  have rr : Vals (V.ref (s1.heap.objs.size + 1) :: vs) (Value.ref (s1.heap.objs.size + 1) :: us) := .cons rfl r
  have len : (Value.ref (s1.heap.objs.size + 1) :: us).length = ps.length := rr.length.symm.trans (F.len _ _ _ _ want)
  have bind := hb _ (Value.ref (s1.heap.objs.size + 1) :: us) J.kIn (by simpa using len)
  simp only [List.append_nil] at bind
  refine wpAny_call (make_map (f := f) I1.kIn M.makes M.init (beq_iff_eq.mp M.fn) (codeAny_mono (F.run _ X.stack _ _ ⟨Value.ref (s1.heap.objs.size + 1) :: us, []⟩ _ _ _ _ (hr.make C us []) (J.env0.make C us []) bind rr want) fun res s' done => ?_))
  match res, done with
  | .error er, done => exact hx σ pins _ _ er s' J done
  | .ok (.ret u), done =>
    obtain ⟨v, H', I3, rv, ev, q3⟩ := J.after done
    subst ev
    exact ⟨rv, ⟨V.ref (s1.heap.objs.size + 1), H', I3, rfl, q3⟩⟩
  | .ok .next, done => exact False.elim done
  | .ok .brk, done => exact False.elim done
  | .ok .cont, done => exact False.elim done
/-! ### a field of an error that a suite holds -/
/-- what is known of the error's class -/
structure ErrC (K : PySem.W.Frag) (C : Addr) (f : Str) : Prop where
  ga : PySem.W.findIn K (.ref C) "__getattribute__" = some (some (.builtin "BaseException.__getattribute__"))
  gg : PySem.W.findIn K (.ref C) "__getattr__" = some none
  no : PySem.W.findIn K (.ref C) f = some none
  ex : PySem.W.subIn K (.ref C) (.type "BaseException") = some true
  hd : PySem.W.hasDictIn K C = true
def tErrF (K : PySem.W.Frag) (f : Str) (a : Addr) (cls : Value) (d : Option Addr) (te : TE) : TE := fun σ H Q => te σ H fun x H1 => x = .ref a ∧ ∃ (C dd : Addr) (fs : List (Str × V)) (v : V), cls = .ref C ∧ ErrC K C f ∧ d = some dd ∧ H1 dd = some (.xd fs) ∧ fs.lookup f = some v ∧ Q v H1
theorem pe_errf {a : Addr} {oe : Obj} {cls : Value} {d : Option Addr} {pn : List (Addr × Obj)} {f : Str} (hz : Zc cls d oe) (hf : ∃ vs, oe.data = .fields vs) (he : PE (X.suite a ((a, oe) :: pn)) e te)
    (hb : attributeBase e f X.env (eval e X.env) = eval e X.env := by rfl) : PE (X.suite a ((a, oe) :: pn)) (.Attribute e f pos) (tErrF X.K f a cls d te) := by
  constructor
  intro pins s σ H Q I h
  refine attr_of hb (thn (he.run pins s σ H _ I h) fun u s1 ⟨x, H1, I1, rx, ex, C, dd, fs, v, ec, T, ed, ea, lv, q⟩ => ?_)
  subst ex ec ed
  obtain rfl : u = Value.ref a := rx
  obtain ⟨at_, _⟩ := I1.pin (a, oe) (List.mem_append_left _ List.mem_cons_self)
  obtain ⟨vs, hd⟩ := hf
  have ob : ObjOk X.prog X.w H1 s1.heap dd (.xd fs) := I1.hok dd _ ea
  obtain ⟨mA, hns, hr⟩ := ob
  obtain ⟨od, ho, hl⟩ := lookIn_ns hns
  obtain ⟨u, hu, ru⟩ := RelO.some_of (v := v) (o := mA f) (by rw [← lv]; exact hr f)
  have inst : PySem.W.InstAt s1.heap a oe C (some od) := ⟨at_, hz.1, by unfold PySem.W.notCls; rw [hd] <;> rfl, by rw [hz.2]; exact ho⟩
  exact HandSPX.exc_get I1.kIn inst T.ga T.gg T.ex (PySem.W.findObj_own T.hd T.no rfl (by rw [hl, hu])) (handed_of ru) ⟨v, H1, I1.tok _, ru, q⟩
end
end Xs
set_option Elab.async false
set_option linter.all false
set_option maxRecDepth 100000
set_option maxHeartbeats 4000000
/-! X4: raise OutOfRange("..") as one rule. -/
namespace Xs
open PySem PySem.Spec PyProof.Rows L2

/-- an error class over ValueError that keeps its one argument in the field f -/
structure Out (P : Program) (K : PySem.W.Frag) (mg : Str → Option Value) (nm f : Str) (C : Addr) : Prop where
  g : mg nm = some (.ref C)
  oex : OexC K C
  init : ∃ (fI : Addr) (fd : FuncData) (ps : List Str), PySem.W.findIn K (.ref C) "__init__" = some (some (.ref fI)) ∧ PySem.W.typeIn K (.ref fI) = some (.type "function") ∧
    (∀ (w : World) (base : Heap), FnOk P w K mg base CX0 1 fI fd ps (spSup C f)) ∧ Binds K fd ps []
  err : ErrC K C f
section
variable {X : Cx} {C : Addr} {nm f z : Str} {W : WX} {p q pos pos2 : Pos} {k : Nat}
def tOut (C : Addr) (f : Str) (W : WX) (z : Str) : TS := fun _ σ H => ∀ d, H d = none → W (.ref C) (some d) σ (upd H d (.xd [(f, .str z)]))
theorem ps_out (hc : X.calm = true) (O : Out X.prog X.K X.mg nm f C) (hr : Room 2 X.A) (tk : Takes X W) (hz : z.length ≤ 100) (hg : Gl X nm) (hdb : (nm == ("__debug__" : Str)) = false := by decide)
    (he : starEach [.Constant (.str z) k q] X.env = (false, eval (.Constant (.str z) k q) X.env) :: starEach [] X.env := by rfl) (hpl : (backTo pos (starEach [] X.env)).any (·.1) = false := by rfl) :
    PS X (.Raise (some (.Call (.Name nm p) [.Constant (.str z) k q] [] pos)) none pos2) (tOut C f W z) := by
  obtain ⟨fI, fd, ps, iC, tI, F, B⟩ := O.init
  have R := ps_raise (X := X) (pos := pos2) hc tk (pmk_oex (p := p) (pos := pos) (e := .Constant (.str z) k q) (es := []) O.oex iC tI (F X.w X.base) hr B .nil pass0 hg O.g (pa_cons pe_str pa_nil) hdb he hpl)
  constructor
  intro pins s σ H D I h
  refine R.run pins s σ H D I ?_
  refine ⟨by show 1 ≤ 1000; decide, fun a na => ?_⟩
  refine ⟨a, z, rfl, hz, upd_same, fun dx ndx ne => ⟨rfl, dx, [(f, .str z)], upd_same, ?_, ?_, ?_⟩⟩
  · rw [upd_ne ne]
    exact upd_same
  · rw [upd_ne ne] at ndx
    exact ndx
  · have ndx' : H dx = none := by
      rw [upd_ne ne] at ndx
      exact ndx
    have e : upd (del (upd (upd (upd H a (exo a C none)) dx (exd dx [(f, .str z)])) a (exo a C (some dx))) a) dx (.xd [(f, .str z)]) = upd H dx (.xd [(f, .str z)]) := by
      funext b
      by_cases h1 : b = dx
      · subst h1
        rw [upd_same, upd_same]
      · rw [upd_ne h1, upd_ne h1]
        by_cases h2 : b = a
        · subst h2
          rw [del_same]
          exact na.symm
        · rw [del_ne h2, upd_ne h2, upd_ne h1, upd_ne h2]
    rw [e]
    exact h dx ndx'
/-- nothing leaves -/
theorem passN : Passes (L2.CX X.prog X.w) X (fun _ _ _ => False) := fun _ _ _ _ _ _ _ c => by
  obtain ⟨_, _, _, _, _, _, _, _, _, _, _, _, e⟩ := c
  exact e.elim
end
end Xs
set_option Elab.async false
set_option linter.all false
set_option maxRecDepth 100000
set_option maxHeartbeats 4000000
/-! X5: a method called in a try: what it raises goes where the clauses ask. -/
namespace Xs
open PySem PySem.Spec PyProof.Rows L2
section
variable {X : Cx} {CX : CXT} {k : Nat} {f C : Addr} {fd : FuncData} {ps : List Str} {sp : Sp} {R : L2.St → XK} {m : Str} {pos apos : Pos} {e o : Expr} {es : List Expr} {ta : TE} {t : TA} {pl : Sem Bool}
def tMethX (C : Addr) (m : Str) (sp : Sp) (R : L2.St → XK) (ta : TE) (t : TA) : TE := fun σ H Q => ta σ H fun x H1 => ∃ a dx fs, x = .ref a ∧ H1 a = some (.ins C dx fs) ∧ fs.lookup m = none ∧ t σ H1 fun vs H2 => sp (x :: vs) H2 Q (R σ)
theorem pe_methX (he : PE X o ta) (c : Cls X.K C) (hm : Meth X.K C m f) (F : FnOk X.prog X.w X.K X.mg X.base CX k f fd ps sp) (hr : Room k X.A) (hb : Binds X.K fd ps []) (hx : ∀ σ, PassesAt CX X σ (R σ)) (ha : PA X (e :: es) t)
    (hst : starEach (e :: es) X.env = (false, eval e X.env) :: starEach es X.env := by rfl) (hpl : ((backTo pos (starEach es X.env)).any fun x => x.1) = false := by rfl)
    (ht : eval ((o.Attribute m apos).Call (e :: es) [] pos) X.env = (do
      let ov ← eval o X.env
      standAt apos.atName
      let (f, first) ← holding [ov] (getMethod ov m pl)
      callWith pos f first (backTo pos (starEach (e :: es) X.env)) (backToKw pos (keywordEach [] X.env))) := by rfl) :
    PE X ((o.Attribute m apos).Call (e :: es) [] pos) (tMethX C m sp R ta t) := by
  constructor
  intro pins s σ H Q I h
  refine PySem.W.methodCall_KW (thn (he.run pins s σ H _ I h) fun u s1 ⟨x, H1, I1, rx, a, dx, fs, ex, ea, l, q⟩ => ?_) ht
  subst ex
  obtain rfl : u = Value.ref a := rx
  exact getmeth_ok I1 ea c hm l (PySem.W.callWith_K I.ok.mod.kin hm.kp (thn (ha.run pos pins s1 σ H1 (fun vs H2 => sp (V.ref a :: vs) H2 Q (R σ)) I1 q) fun us s2 ⟨vs, H2, I2, r, q2⟩ => ⟨I2.kIn, run_fnS F hr hb (hx σ) I2 (Paired.cons (show L2.RelV (V.ref a) (Value.ref a) from rfl) r) q2⟩) hst hpl)
end
end Xs
set_option Elab.async false
set_option linter.all false
set_option maxRecDepth 100000
/-! G: a def's promise for calls under which no repr is under way; repr of data; the end of a row by such a promise. -/
namespace Gd
open PySem PySem.Spec PyProof.Rows L2

/-- like FnOk, for the arounds in which no guarded builtin runs -/
structure FnG (P : Program) (w : World) (K : PySem.W.Frag) (mg : Str → Option Value) (base : Heap) (k : Nat)
    (f : Addr) (fd : FuncData) (ps : List Str) (sp : Sp) : Prop where
  len : ∀ vs H Q E, sp vs H Q E → vs.length = ps.length
  run : ∀ (A : Around) (out : List Env) (s : Shared) (H : Hp) (ar : Args) (us : List Value) (vs : List V) (Q : VK) (E : XK),
    A.guards = some [] → Room k A → Env0 P w K mg base A out s H → BindsTo s fd ar (ps.zip us) → Vals vs us → sp vs H Q E →
    codeAny (model P w) A (.call (.ref f) ar) (CR CX0 out P w H s Q E) s

theorem FnG.of {P : Program} {w : World} {K : PySem.W.Frag} {mg : Str → Option Value} {base : Heap} {k : Nat}
    {f : Addr} {fd : FuncData} {ps : List Str} {sp : Sp} (F : FnOk P w K mg base CX0 k f fd ps sp) : FnG P w K mg base k f fd ps sp :=
  ⟨F.len, fun A out s H ar us vs Q E _ r e b v h => F.run A out s H ar us vs Q E r e b v h⟩

section
variable {X : Cx} {k : Nat} {f : Addr} {fd : FuncData} {ps : List Str} {sp : Sp} {dvs : List V} {ds : List Value} {E : XK} {x : Str}
  {p pos : Pos} {e : Expr} {es : List Expr} {t : TA}

theorem runG {pins : List (Addr × Obj)} {σ : L2.St} {H : Hp} {s : Shared} {Q : VK} {us : List Value} {vs : List V}
    (F : FnG X.prog X.w X.K X.mg X.base k f fd ps sp) (hgd : X.A.guards = some []) (hr : Room k X.A) (hb : Binds X.K fd ps ds) (hd : Vals dvs ds)
    (I : Inv X pins σ H s) (r : Vals vs us) (h : sp (vs ++ dvs) H Q E) :
    wpAny (model X.prog X.w) X.A (call (.ref f) us) (EP X pins σ Q) X.xe s := by
  have rr : Vals (vs ++ dvs) (us ++ ds) := r.append hd
  have ln : (us ++ ds).length = ps.length := rr.length.symm.trans (F.len _ _ _ _ h)
  have c := F.run X.A X.stack s H ⟨us, []⟩ (us ++ ds) (vs ++ dvs) Q E hgd hr I.env0 (hb s us I.kIn ln) rr h
  refine wpAny_call (codeAny_mono c ?_)
  intro res s' hq
  match res, hq with
  | .error _, hq => exact False.elim hq
  | .ok (.ret u), hq => exact I.after hq
  | .ok .next, hq => exact False.elim hq
  | .ok .brk, hq => exact False.elim hq
  | .ok .cont, hq => exact False.elim hq

theorem pe_callG (F : FnG X.prog X.w X.K X.mg X.base k f fd ps sp) (hgd : X.A.guards = some []) (hr : Room k X.A) (hg : Gl X x)
    (hm : X.mg x = some (.ref f)) (hk : PySem.W.keepIn X.K (.ref f) = true) (hb : Binds X.K fd ps ds) (hd : Vals dvs ds)
    (ha : PA X (e :: es) t) (hdb : (x == ("__debug__" : Str)) = false := by decide)
    (hse : starEach (e :: es) X.env = (false, eval e X.env) :: starEach es X.env := by rfl)
    (hpl : (backTo pos (starEach es X.env)).any (·.1) = false := by rfl) :
    PE X (.Call (.Name x p) (e :: es) [] pos) (tCall sp dvs (fun _ _ _ => False) t) := by
  constructor
  intro pins s σ H Q I h
  refine wpAny_Call_Name_kw (ld_glob I hg hm (PySem.W.callWith_K (h₀ := X.base) I.ok.mod.kin hk ?_ hse hpl) hdb)
  exact thn (ha.run pos pins s σ H _ I h) fun us s1 ⟨vs, H1, J, r, q⟩ => ⟨J.kIn, runG F hgd hr hb hd J r q⟩
end

theorem fn_G {P : Program} {w : World} {K : PySem.W.Frag} {mg : Str → Option Value} {base : Heap} {k : Nat} {f : Addr} {nm qual : Str} {st : Stmt} {fd : FuncData}
    {N ps : List Str} {sp : Sp} (F : Fun K nm qual st f fd) (S : FnScope N ps (defScope st)) (len : ∀ vs H Q E, sp vs H Q E → vs.length = ps.length)
    (body : ∀ (cdv : Value) (A : Around) (out : List Env) (s : Shared) (H : Hp) (vs : List V) (Q : VK) (E : XK), A.guards = some [] →
      Room k (A.deeper (envOfC qual (defScope st) s.heap.objs.size f cdv)) → sp vs H Q E →
      ∃ t, PSs (cxOf CX0 P w K mg base N qual (defScope st) f cdv A out s H E).nox (defBody st) t ∧ t { nx := fun _ H' => Q .non H', rt := Q } (start N vs) H) :
    FnG P w K mg base (k + 1) f fd ps sp := by
  obtain ⟨oc, od, kV, doc, pm, an, cdv, ct, osl, rfl, lk, hcd⟩ := F.ex
  refine ⟨len, ?_⟩
  intro A out s H ar us vs Q E hgd hr e0 hb r hsp
  have kin : K.In s.heap := e0.mod.kin.keeps fun b o z => (e0.bs b o z).1
  have lim : s.heap.NoLimit := e0.mod.nolimit.keeps fun b o z => (e0.bs b o z).1
  have kinds : ∀ y ∈ ps.zip us, (defScope st).names.lookup y.1 = some .local ∨
      ((defScope st).names.lookup y.1 = some .cell ∧ ((cellsFrom (s.heap.objs.size + 1) (defScope st).names []).lookup y.1).isSome = true) := by
    rintro ⟨n, v⟩ hy
    exact (S.par n (List.of_mem_zip hy).1).imp id fun q => ⟨q, PySem.W.cellsFrom_some _ _ _ (.inl q)⟩
  refine codeAny_call_function hr.depth (kin _ _ lk) rfl S.co S.gen rfl (PySem.W.codeRec_of kin hcd) (hb _ _ _ _ ?_)
  refine wpAny_newFunctionEnv_cells S.kind kinds ?_
  intro env he s1 x
  subst he
  refine ⟨lim.keeps x.toInCall.keep, codeAny_func ?_⟩
  obtain ⟨t, ht, hq⟩ := body cdv A out s H vs Q E hgd (hr.deeper _) hsp
  have I := inv_start (CX := CX0) (qual := qual) (f := f) (cd := cdv) (E := E) (w := w) S hr.hd e0 (len _ _ _ _ hsp) r x
  refine wpAny_mono (ht.nox.run [] s1 (start N vs) H _ I hq) ?_ fun _ _ z => z
  intro fl s' hs
  have fin : ∀ {σ' : L2.St} {H' : Hp} {v : V} {u : Value}, Inv (cxOf CX0 P w K mg base N qual (defScope st) f cdv A out s H E) [] σ' H' s' →
      RelV v u → Q v H' → CE out P w H s Q u s' := fun J rv q => ⟨_, _, J.os, J.bare, J.base, J.hok, rv, q⟩
  match fl, hs with
  | .ret u, ⟨v, σ', H', J, rv, q⟩ => exact fin J rv q
  | .next, ⟨σ', H', J, q⟩ => exact fin (v := V.non) (u := Value.none) J rfl q
  | .brk, ⟨_, _, _, q⟩ => exact False.elim q
  | .cont, ⟨_, _, _, q⟩ => exact False.elim q

/-! ### repr of data -/
def rRepr (K : PySem.W.Frag) : List V → Hp → VK → Prop := fun xs H Q => ∃ (a : Addr) (d : PyData), xs = [.ref a] ∧ Dp K H (.ref a) d ∧
  d.showable = true ∧ d.hasDict = false ∧ d.depth ≤ 60 ∧ d.shown.length ≤ sizeLine ∧ Q (.str d.shown) H
theorem call_reprG {X : Cx} (hgd : X.A.guards = some []) (hu : X.A.units + 64 < cLine) : CallR X (.builtin "repr") (rRepr X.K) := by
  intro pins s σ H xs us Q I r h
  obtain ⟨a, d, rfl, hD, hs, hn, hdp, hz, q⟩ := h
  obtain ⟨u, rfl, rx⟩ := vals1 r
  obtain rfl : u = Value.ref a := rx
  obtain ⟨as, rd⟩ := Dp.reads I d (.ref a) (.ref a) hD rfl
  refine repr_of_reads' rd hs (fun z => ?_) hgd (by omega) (fun _ _ z => z) (fun h' v tk keep => ?_) hz
  · rw [hn] at z
    cases z
  · exact ⟨.str d.shown, H, I.kept keep, ⟨_, rfl⟩, q⟩

/-! ### l.extend(t), t a tuple -/
def rExtT (K : PySem.W.Frag) : V → List V → Hp → VK → Prop := fun x vs H Q => ∃ (l b : Addr) (xs zs : List V), x = .ref l ∧ vs = [.ref b] ∧
  H l = some (.lst xs) ∧ SqT K H b zs ∧ xs.length + zs.length ≤ sizeLine ∧ Q .non (upd H l (.lst (xs ++ zs)))
theorem ext_meets (l : Addr) (its : Array Value) (n : Nat) (b : Addr) (more : Array Value) (m : Nat) (dd : Option Addr) (sl : Array (Option Value))
    (h0 : ¬(!its.isEmpty && Builtin.List.listTooLong (its.size + more.size)) = true) (h1 : its.size ≤ sizeLine) (h2 : its.size + more.size ≤ sizeLine + 1) :
    Meets (Builtin.«list.extend» ⟨[.ref l, .ref b], []⟩) (fun _ R s =>
      s.heap.get? l = some { cls := .type "list", dict := none, data := .seq its n, slots := #[] } ∧
      s.heap.get? b = some { cls := .type "tuple", dict := dd, data := .seq more m, slots := sl } ∧
      R (.ok (.ret Value.none)) { s with heap := s.heap.update l (Obj.mapSeq fun x => x ++ more), toks := s.toks }) := by
  refine .of_wp fun prog w A R s h => ?_
  obtain ⟨hp, g, d, tk, os⟩ := s
  obtain ⟨hl, hb, h⟩ := h
  have f1 := AutoSeq1.idx_int
  have f2 := AutoSeq1.sub_tuple_tuple
  have f3 := AutoSeq1.sub_list_list
  have f4 := AutoSeq1.sub_tuple_list
  have f5 := AutoSeq1.sub_list_tuple
  have hz : (its ++ more).size ≤ sizeLine + 1 := by
    rw [Array.size_append]
    exact h2
  wp_walk using (wpAny_updateSeq hl rfl (hz := h1) (_hz' := hz)), AutoSeq1.wpAny_loadPart' hl, AutoSeq1.wpAny_loadPart' hb
  exact ⟨_, rfl, h⟩
theorem mt_extT {X : Cx} : MtM X "list.extend" (rExtT X.K) := by
  intro pins s σ H x vs v us Q I rx rv h
  obtain ⟨l, b, xs, zs, rfl, rfl, hH, hB, hz, q⟩ := h
  cases rx
  obtain ⟨u, rfl, ru⟩ := rv.one
  cases ru
  obtain ⟨z, its, n, r, hl, e⟩ := I.lstM hH
  obtain ⟨its2, r2, ⟨o, e2, hc, m, hd⟩, z2⟩ := I.tuple hB
  have l2 := r2.length
  obtain ⟨cls, dd, dat, sl⟩ := o
  cases hc
  cases hd
  have sz : its.toArray.size + its2.toArray.size ≤ sizeLine := by
    rw [List.size_toArray, List.size_toArray]
    omega
  refine call_meets F.slot_list_extend ⟨_, e, rfl⟩ F.entry_list_extend (F.args_list_extend_2 _ _)
    (ext_meets l its.toArray n b its2.toArray m dd sl (by rw [notLongL sz, Bool.and_false]; exact Bool.false_ne_true) (by omega) (by omega)) ⟨e, e2, ?_⟩
  refine ⟨.non, _, I.lset (its' := its ++ its2) hH e (by simp) (r.append r2) ?_, rfl, q⟩
  rw [List.length_append]
  omega

/-! ### the end of a row -/
section
variable {P : Program} {w : World} {K : PySem.W.Frag} {mg mb : Str → Option Value} {k : Nat} {fa a : Addr} {fd : FuncData} {x : Str} {sp : Sp} {s1 : Shared}
  {vs : List Value} {ns : List Int} {H : Hp}

theorem coreG (KX : K.In s1.heap) (hns : s1.heap.Ns mainGlobals mg) (hb : s1.heap.Ns builtinsNs mb) (hbb : ∀ x : Str, x ≠ "__name__" → mb x = bootBuiltins x)
    (hlim : s1.heap.NoLimit) (hg : s1.gens = #[]) (ha : s1.heap.get? a = some { cls := .type "list", data := .seq vs.toArray }) (hr : Room k callerA)
    (F : ∀ base : Heap, K.In base → base.Ns mainGlobals mg → FnG P w K mg base k fa fd [x] sp)
    (hbind : ∀ (s : Shared) (u : Value), BindsTo s fd ⟨[u], []⟩ [(x, u)])
    (hO : Only H) (hok : HOk P w H s1.heap) (one : ∀ b, H b ≠ none → b = a) (apart : H a ≠ none → K.lookup a = none)
    (hsp : sp [.ref a] H (fun v _ => v = .bl true) fun _ _ _ => False) :
    codeAny (model P w) callerA (.call (.ref fa) ⟨[.ref a], []⟩)
      (fun r s' => r = .ok (.ret (.bool true)) ∧ OldK s1.heap s'.heap ∧ s'.os = s1.os ∧ AllBare s'.gens) s1 := by
  have un : ∀ {b : Addr} {o : Obj}, s1.heap.get? b = some o → (b = a → False) → H b = none := fun {b o} _ h => by
    cases q : H b with
    | none => rfl
    | some u => exact (h (one b (by rw [q]; exact fun z => nomatch z))).elim
  have nd : ∀ {b : Addr} {o : Obj} {es : Array DictEntry} {ep : Nat}, s1.heap.get? b = some o → o.data = .dict es ep → H b = none := fun {b o es ep} e d =>
    un e fun z => by
      subst z
      rw [ha] at e
      cases e
      exact nomatch (d : Data.seq vs.toArray _ = Data.dict es ep)
  have ns' : ∀ {b : Addr} {m : Str → Option Value}, s1.heap.Ns b m → (hidT s1.heap H).Ns b m := fun {b m} h => by
    obtain ⟨o, es, ep, e, d, r⟩ := h
    exact ⟨o, es, ep, hidT_get e (nd e d), d, r⟩
  have kin : K.In (hidT s1.heap H) := fun b o e => by
    refine hidT_get (KX b o e) ?_
    cases q : H b with
    | none => rfl
    | some u =>
      have eb : b = a := one b (by rw [q]; exact fun z => nomatch z)
      subst eb
      have z := apart (by rw [q]; exact fun z => nomatch z)
      rw [z] at e
      cases e
  obtain ⟨mc, l1, l2⟩ := hlim
  have hM : Mod K mg (hidT s1.heap H) := ⟨kin, ns' hns, ⟨mb, ns' hb, hbb⟩, ⟨mc, ns' l1, l2⟩⟩
  have e0 : Env0 P w K mg (hidT s1.heap H) callerA [] s1 H :=
    { frames := rfl, mod := hM, bs := fun b o z => of_hidT z, bsz := Nat.le_of_eq (hidT_size _ _), funs := trivial, frf := fun b z => (List.not_mem_nil (show b ∈ ([] : List Addr) from z)).elim, hok := hok, bare := .of_eq hg }
  have run := (F _ kin (ns' hns)).run callerA [] s1 H ⟨[.ref a], []⟩ [.ref a] [.ref a] _ _ rfl hr e0 (hbind s1 (.ref a)) (.cons rfl .nil) hsp
  refine codeAny_mono run fun r s' h => ?_
  match r, h with
  | .error _, h => exact False.elim h
  | .ok .next, h => exact False.elim h
  | .ok .brk, h => exact False.elim h
  | .ok .cont, h => exact False.elim h
  | .ok (.ret u), ⟨v, H', os, bare, u2, hok', r', q⟩ =>
    obtain rfl : v = .bl true := q
    obtain rfl : u = Value.bool true := r'
    refine ⟨rfl, OldK.of_keep fun b o e => ?_, os, bare⟩
    cases q : H b with
    | none => exact u2.keep b o e q (fun z => nomatch z) (fun z => nomatch z)
    | some y =>
      rcases hO b with z | ⟨ob, xs, z⟩
      · rw [q] at z
        cases z
      · obtain ⟨e1, _⟩ := hok b _ z
        obtain ⟨e2, _⟩ := hok' b _ (u2.frzs b ob _ z)
        rw [e] at e1
        cases e1
        exact e2

theorem lawG (KX : K.In s1.heap) (hns : s1.heap.Ns mainGlobals mg) (hb : s1.heap.Ns builtinsNs mb) (hbb : ∀ x : Str, x ≠ "__name__" → mb x = bootBuiltins x)
    (hlim : s1.heap.NoLimit) (hg : s1.gens = #[]) (ha : s1.heap.get? a = some { cls := .type "list", data := .seq vs.toArray }) (hi : IntsAre vs ns)
    (hl : ns.length ≤ sizeLine) (hr : Room k callerA)
    (F : ∀ base : Heap, K.In base → base.Ns mainGlobals mg → FnG P w K mg base k fa fd [x] sp)
    (hbind : ∀ (s : Shared) (u : Value), BindsTo s fd ⟨[u], []⟩ [(x, u)])
    (hsp : ∀ H : Hp, Only H → SqL K H a (ns.map V.int) → sp [.ref a] H (fun v _ => v = .bl true) fun _ _ _ => False) :
    codeAny (model P w) callerA (.call (.ref fa) ⟨[.ref a], []⟩)
      (fun r s' => r = .ok (.ret (.bool true)) ∧ OldK s1.heap s'.heap ∧ s'.os = s1.os ∧ AllBare s'.gens) s1 := by
  have rv := vals_ints hi
  have lv := hi.length
  cases hk : K.lookup a with
  | some o =>
    have e := KX a o hk
    rw [ha] at e
    cases e
    have S : SqL K (fun _ => none) a (ns.map V.int) := .inr ⟨_, vs.toArray, _, hk, rfl, rfl, rfl, by rw [List.size_toArray, lv]; exact hl, rv⟩
    have O : Only (fun _ => none) := fun _ => .inl rfl
    exact coreG (H := fun _ => none) KX hns hb hbb hlim hg ha hr F hbind O (fun b u z => nomatch (z : (none : Option HO) = some u)) (fun b z => absurd rfl z) (fun z => absurd rfl z) (hsp _ O S)
  | none =>
    let o : Obj := { cls := .type "list", data := .seq vs.toArray }
    let G : Hp := fun b => if b = a then some (.frz o (.lst (ns.map V.int))) else none
    have Ga : G a = some (.frz o (.lst (ns.map V.int))) := if_pos rfl
    have Gn : ∀ b, b ≠ a → G b = none := fun b h => if_neg h
    have O : Only G := fun b => by
      by_cases q : b = a
      · subst q
        exact .inr ⟨_, _, Ga⟩
      · exact .inl (Gn b q)
    have ok : HOk P w G s1.heap := fun b u z => by
      by_cases q : b = a
      · subst q
        rw [Ga] at z
        cases z
        exact ⟨ha, by rw [List.length_map]; exact hl, vs, _, rv, ha⟩
      · rw [Gn b q] at z
        cases z
    refine coreG (H := G) KX hns hb hbb hlim hg ha hr F hbind O ok (fun b z => ?_) (fun _ => hk) (hsp G O (.inl (.inr ⟨o, Ga⟩)))
    by_cases q : b = a
    · exact q
    · exact absurd (Gn b q) z
end

theorem walkG {l : PySem.W.OpenLaw} {n k : Nat} {q : Program} {loose : List Str} {XP : (Str → Option Value) → Heap → Prop} {YP : World → Heap → Prop} {d : DefRec}
    {K : Params → PySem.W.Frag} {sp : World → Sp} {x : Str} (hn : l.most = some n) (hn2 : n ≤ sizeLine) (hdf : d.params.defaults = []) (hr : Room k callerA)
    (hY : ∀ (w : World) (h : Heap), YP w h → (K w.params).In h)
    (F : ∀ (w : World) (mg : Str → Option Value) (fa : Addr) (h : Heap), (K w.params).In h → h.Ns mainGlobals mg → mg d.name = some (.ref fa) →
      ∃ fd : FuncData, (∀ (s : Shared) (u : Value), BindsTo s fd ⟨[u], []⟩ [(x, u)]) ∧
        ∀ base : Heap, (K w.params).In base → base.Ns mainGlobals mg → FnG l.prog w (K w.params) mg base k fa fd [x] (sp w))
    (hsp : ∀ (w : World) (H : Hp) (a : Addr) (ns : List Int), ns.length ≤ n → Only H → SqL (K w.params) H a (ns.map V.int) →
      sp w [.ref a] H (fun v _ => v = .bl true) fun _ _ _ => False) :
    PySem.W.WalkO q loose XP YP l.row.toRowW d [] (fun f vs => PySem.call f vs) := by
  refine Att.attach_call hn hdf ?_
  intro w s0 s1 mg mb fa o pm cd doc a vs ns G Y ho hd hcd hmg hobj hints hlen hg
  have KX := hY w _ Y
  obtain ⟨fd, hb, hF⟩ := F w mg fa _ KX G.T.g hmg
  exact lawG KX G.T.g G.T.b G.T.builtins G.T.nolimit hg hobj hints (Nat.le_trans hlen hn2) hr hF hb fun H hO hS => hsp w H a ns hlen hO hS
end Gd
set_option Elab.async false
set_option linter.all false
set_option maxRecDepth 100000
/-! G2: small data: what repr and == ask of it. -/
namespace Gd
open PySem PySem.Spec PyProof.Rows L2
structure Sh (dp wt : Nat) (d : PyData) : Prop where
  s : d.showable = true
  n : d.hasDict = false
  dl : d.depth ≤ dp
  l : d.leavesShort 13 = true
  c : d.canLay0 = true
  w : d.weight ≤ wt
theorem Sh.none : Sh 0 64 .none := ⟨rfl, rfl, by simp [PyData.depth], rfl, rfl, by simp [PyData.weight]⟩
theorem Sh.bool (b : Bool) : Sh 0 64 (.bool b) := ⟨rfl, rfl, by simp [PyData.depth], rfl, rfl, by simp [PyData.weight]⟩
theorem log_lt {n k : Nat} (h : n < 2 ^ k) (hk : 0 < k) : n.log2 < k := PySem.Flt.log2_lt_of hk h
theorem Sh.int {i : Int} (h : i.natAbs < 10 ^ 12) : Sh 0 64 (.int i) := by
  have h63 : i.natAbs < 2 ^ 63 := by omega
  have lg := log_lt h63 (by decide)
  refine ⟨?_, rfl, by simp [PyData.depth], ?_, ?_, ?_⟩
  · simp only [PyData.showable]
    exact decide_eq_true (by omega)
  · simp only [PyData.leavesShort]
    exact decide_eq_true (PyData.shown_int_le h)
  · rfl
  · simp only [PyData.weight]
    split <;> omega
theorem Sh.str {x : Str} (h : ∀ c ∈ x.cps.toList, c < 0x110000) (hz : x.cps.size ≤ 64) : Sh 0 64 (.str x) := by
  have hc : PyData.canLay0 (.str x) = true := by
    simp only [PyData.canLay0, PyData.strOk]
    refine Array.all_eq_true_iff_forall_mem.mpr fun c hm => decide_eq_true (h c (Array.mem_toList_iff.mpr hm))
  refine ⟨rfl, rfl, by simp [PyData.depth], PyData.leavesShort_of_canLay0 13 _ hc rfl, hc, ?_⟩
  simp only [PyData.weight]
  exact hz
theorem Sh.mono {a b a' b' : Nat} {d : PyData} (h : Sh a b d) (h1 : a ≤ a') (h2 : b ≤ b') : Sh a' b' d := ⟨h.s, h.n, Nat.le_trans h.dl h1, h.l, h.c, Nat.le_trans h.w h2⟩
theorem Sh.all {dp wt : Nat} : ∀ {ds : List PyData}, (∀ d ∈ ds, Sh dp wt d) → PyData.showableAll ds = true ∧ PyData.hasDictAll ds = false ∧ PyData.depthAll ds ≤ dp ∧ PyData.leavesShortAll 13 ds = true ∧ PyData.canLayAll0 ds = true ∧ PyData.weightAll ds ≤ (wt + 1) * ds.length
  | [], _ => ⟨rfl, rfl, by simp [PyData.depthAll], rfl, rfl, by simp [PyData.weightAll]⟩
  | d :: ds, h => by
    obtain ⟨a1, a2, a3, a4, a5, a6⟩ := Sh.all (ds := ds) fun e he => h e (List.mem_cons_of_mem _ he)
    have x := h d List.mem_cons_self
    refine ⟨?_, ?_, ?_, ?_, ?_, ?_⟩
    · simp only [PyData.showableAll, a1, x.s, Bool.and_self]
    · simp only [PyData.hasDictAll, a2, x.n, Bool.or_self]
    · have := x.dl
      simp only [PyData.depthAll]
      omega
    · simp only [PyData.leavesShortAll, a4, x.l, Bool.and_self]
    · simp only [PyData.canLayAll0, a5, x.c, Bool.and_self]
    · have := x.w
      simp only [PyData.weightAll, List.length_cons, Nat.mul_succ]
      omega
theorem Sh.list {dp wt : Nat} {ds : List PyData} (h : ∀ d ∈ ds, Sh dp wt d) : Sh (dp + 1) ((wt + 1) * ds.length) (.list ds) := by
  obtain ⟨a1, a2, a3, a4, a5, a6⟩ := Sh.all h
  refine ⟨?_, ?_, ?_, ?_, ?_, ?_⟩
  · simp only [PyData.showable]; exact a1
  · simp only [PyData.hasDict]; exact a2
  · simp only [PyData.depth]; omega
  · simp only [PyData.leavesShort]; exact a4
  · simp only [PyData.canLay0]; exact a5
  · simp only [PyData.weight]; exact a6
theorem Sh.tup {dp wt : Nat} {ds : List PyData} (h : ∀ d ∈ ds, Sh dp wt d) : Sh (dp + 1) ((wt + 1) * ds.length) (.tuple ds) := by
  obtain ⟨a1, a2, a3, a4, a5, a6⟩ := Sh.all h
  refine ⟨?_, ?_, ?_, ?_, ?_, ?_⟩
  · simp only [PyData.showable]; exact a1
  · simp only [PyData.hasDict]; exact a2
  · simp only [PyData.depth]; omega
  · simp only [PyData.leavesShort]; exact a4
  · simp only [PyData.canLay0]; exact a5
  · simp only [PyData.weight]; exact a6
theorem Sh.fits {dp wt : Nat} {d : PyData} (h : Sh dp wt d) (h1 : dp ≤ 60 := by omega) (h2 : wt ≤ 1000000 := by omega) : d.showable = true ∧ d.hasDict = false ∧ d.depth ≤ 60 ∧ d.shown.length ≤ sizeLine :=
  ⟨h.s, h.n, Nat.le_trans h.dl h1, PyData.shown_fits (B := 13) (by decide) (by decide) h.l (Nat.le_trans (Nat.le_trans h.w h2) (by decide))⟩
theorem Sh.shaped {dp wt : Nat} {d : PyData} (h : Sh dp wt d) (h1 : dp ≤ 60 := by omega) : SeqAt.shaped d = true := by
  have := h.dl
  unfold SeqAt.shaped
  rw [h.c, decide_eq_true (by omega)]
  rfl
/-- a list of ints as data -/
theorem dp_ints {K : PySem.W.Frag} {H : Hp} : ∀ ns : List Int, DpAll K H (ns.map V.int) (ns.map PyData.int)
  | [] => .nil
  | n :: ns => .cons (.int n) (dp_ints ns)
theorem sh_ints {ns : List Int} (h : ∀ n ∈ ns, n.natAbs < 10 ^ 12) : Sh 1 (65 * ns.length) (.list (ns.map PyData.int)) := by
  have := Sh.list (dp := 0) (wt := 64) (ds := ns.map PyData.int) fun d hd => by
    obtain ⟨n, hn, rfl⟩ := List.mem_map.mp hd
    exact Sh.int (h n hn)
  rw [List.length_map] at this
  exact this
end Gd
set_option Elab.async false
set_option linter.all false
set_option maxRecDepth 100000
set_option maxHeartbeats 4000000
/-! Com: what several laws share: heaps that grow, the box of draws, references. -/
namespace Com
open PySem PySem.Spec PyProof.Rows L2 Gd
variable {K : PySem.W.Frag}
inductive Rf where
  | ob (i : Int)
  | im (o e : Int)
  deriving DecidableEq
theorem lt_size {n : Nat} (h : n ≤ 1000000) : n < sizeLine := Nat.lt_of_le_of_lt h (by decide)
theorem same_new {H H' : Hp} {p : Addr} {o : HO} (s : Same H H') (h : H' p = none) : Same H (upd H' p o) := fun b x e => by
  rw [upd_ne (ne_of_none (s b x e) h)]
  exact s b x e
theorem same_mut {H H' : Hp} {p : Addr} {o : HO} (s : Same H H') (h : H p = none) : Same H (upd H' p o) := fun b x e => by
  rw [upd_ne (ne_of_none e h)]
  exact s b x e
def Bx (H : Hp) (b dg : Addr) (ds : List Int) : Prop := ∃ n : Nat, H b = some (.lst [.ref dg, .int (n : Int)]) ∧ H dg = some (.lst (ds.map V.int))
/-- all stays but b -/
def Fx (b : Addr) (H H' : Hp) : Prop := ∀ c o, c ≠ b → H c = some o → H' c = some o
theorem Fx.refl (b : Addr) (H : Hp) : Fx b H H := fun _ _ _ h => h
theorem Fx.trans {b : Addr} {H H1 H2 : Hp} (a : Fx b H H1) (c : Fx b H1 H2) : Fx b H H2 := fun x o n h => c x o n (a x o n h)
theorem Fx.new {b p : Addr} {H H1 : Hp} {o : HO} (a : Fx b H H1) (h : H1 p = none) : Fx b H (upd H1 p o) := fun x u n e => by
  have := a x u n e
  rw [upd_ne (ne_of_none this h)]
  exact this
theorem Fx.mut {b p : Addr} {H H1 : Hp} {o : HO} (a : Fx b H H1) (h : H p = none) : Fx b H (upd H1 p o) := fun x u n e => by
  rw [upd_ne (ne_of_none e h)]
  exact a x u n e
theorem Bx.new {H : Hp} {b dg p : Addr} {ds : List Int} {o : HO} (B : Bx H b dg ds) (h : H p = none) : Bx (upd H p o) b dg ds := by
  obtain ⟨n, h1, h2⟩ := B
  exact ⟨n, by rw [upd_ne (ne_of_none h1 h)]; exact h1, by rw [upd_ne (ne_of_none h2 h)]; exact h2⟩
theorem Bx.upd {H : Hp} {b dg p : Addr} {ds : List Int} {o : HO} (B : Bx H b dg ds) (h1 : p ≠ b) (h2 : p ≠ dg) : Bx (upd H p o) b dg ds := by
  obtain ⟨n, e1, e2⟩ := B
  exact ⟨n, by rw [upd_ne h1.symm]; exact e1, by rw [upd_ne h2.symm]; exact e2⟩
theorem Bx.nb {H : Hp} {b dg p : Addr} {ds : List Int} (B : Bx H b dg ds) (h : H p = none) : p ≠ b ∧ p ≠ dg := by
  obtain ⟨n, e1, e2⟩ := B
  exact ⟨(ne_of_none e1 h).symm, (ne_of_none e2 h).symm⟩
theorem Fx.none {b p : Addr} {H H1 : Hp} (a : Fx b H H1) {dg : Addr} {ds : List Int} (B : Bx H b dg ds) (h : H1 p = Option.none) (B1 : Bx H1 b dg ds) : H p = Option.none := by
  cases e : H p with
  | none => rfl
  | some o =>
    have := a p o (B1.nb h).1 e
    rw [h] at this
    cases this
def RfV (H : Hp) : Option Rf → V → Prop
  | none, v => v = .non
  | some (.ob i), v => ∃ a, v = .ref a ∧ H a = some (.tup [.str "object", .int i])
  | some (.im o e), v => ∃ a, v = .ref a ∧ H a = some (.tup [.str "import", .int o, .int e])
abbrev RfAll (H : Hp) : List (Option Rf) → List V → Prop := Paired (RfV H)
/-- tuples stay -/
def TupS (H H' : Hp) : Prop := ∀ c xs, H c = some (.tup xs) → H' c = some (.tup xs)
theorem RfV.mono {H H' : Hp} (s : TupS H H') : ∀ {r : Option Rf} {v : V}, RfV H r v → RfV H' r v
  | none, _, h => h
  | some (.ob _), _, ⟨a, e, h⟩ => ⟨a, e, s _ _ h⟩
  | some (.im _ _), _, ⟨a, e, h⟩ => ⟨a, e, s _ _ h⟩
theorem RfAll.mono {H H' : Hp} (s : TupS H H') {rs : List (Option Rf)} {vs : List V} (h : RfAll H rs vs) : RfAll H' rs vs := Paired.mapP h fun _ _ x => x.mono s
theorem TupS.of_same {H H' : Hp} (s : Same H H') : TupS H H' := fun c xs e => s c _ e
theorem TupS.of_fx {H H' : Hp} {b dg : Addr} {ds : List Int} (f : Fx b H H') (B : Bx H b dg ds) : TupS H H' := fun c xs e => by
  obtain ⟨n, h1, _⟩ := B
  exact f c _ (ne_of e h1 (fun z => nomatch z)) e
theorem TupS.trans {H H1 H2 : Hp} (a : TupS H H1) (b : TupS H1 H2) : TupS H H2 := fun c xs e => b c xs (a c xs e)
theorem TupS.new {H H1 : Hp} {p : Addr} {o : HO} (a : TupS H H1) (h : H1 p = none) : TupS H (upd H1 p o) := fun c xs e => by
  have := a c xs e
  rw [upd_ne (ne_of_none this h)]
  exact this
theorem TupS.mut {H H1 : Hp} {p : Addr} {o u : HO} (a : TupS H H1) (h : H1 p = some u) (hu : ∀ xs, u ≠ .tup xs) : TupS H (upd H1 p o) := fun c xs e => by
  have := a c xs e
  rw [upd_ne (ne_of this h (fun z => hu xs z.symm))]
  exact this
theorem paired_app {α β : Type} {F : α → β → Prop} : ∀ {xs xs' : List α} {ys ys' : List β}, Paired F xs ys → Paired F xs' ys' → Paired F (xs ++ xs') (ys ++ ys')
  | _, _, _, _, .nil, h => h
  | _, _, _, _, .cons r t, h => .cons r (paired_app t h)
theorem paired_one {α β : Type} {F : α → β → Prop} {a : α} {b : β} (h : F a b) : Paired F [a] [b] := .cons h .nil
theorem valV_none {κ : Type} [DecidableEq κ] {kvs : List (κ × V)} {k : κ} (h : k ∉ kvs.map (·.1)) : valV kvs k = none := by
  unfold valV
  rw [Option.map_eq_none_iff, List.find?_eq_none]
  intro p hp z
  exact h (List.mem_map.mpr ⟨p, hp, of_decide_eq_true z⟩)
theorem nobimp : ¬ V.str "object" = V.str "import" := fun z => absurd (V.str.inj z) (by decide +kernel)
theorem nimpob : ¬ V.str "import" = V.str "object" := fun z => absurd (V.str.inj z) (by decide +kernel)
def rfD : Option Rf → PyData
  | none => .none
  | some (.ob i) => .tuple [.str "object", .int i]
  | some (.im o e) => .tuple [.str "import", .int o, .int e]
theorem rf_dp {H : Hp} : ∀ {r : Option Rf} {v : V}, RfV H r v → Dp K H v (rfD r)
  | none, v, h => by
    have e : v = .non := h
    subst e
    exact .non
  | some (.ob i), v, ⟨a, e, h⟩ => by
    subst e
    exact .tup (SqT.of h) (.cons (.str _) (.cons (.int _) .nil))
  | some (.im o e), v, ⟨a, e2, h⟩ => by
    subst e2
    exact .tup (SqT.of h) (.cons (.str _) (.cons (.int _) (.cons (.int _) .nil)))
theorem rf_dps {H : Hp} : ∀ {rs : List (Option Rf)} {vs : List V}, RfAll H rs vs → DpAll K H vs (rs.map rfD)
  | _, _, .nil => .nil
  | _, _, .cons h t => .cons (rf_dp h) (rf_dps t)
theorem rf_lay (r : Option Rf) : (rfD r).canLay0 = true := by
  rcases r with _ | ⟨i⟩ | ⟨o, e⟩ <;> simp [rfD, PyData.canLay0, PyData.canLayAll0] <;> decide +kernel
theorem rf_depth (r : Option Rf) : (rfD r).depth ≤ 1 := by
  rcases r with _ | ⟨i⟩ | ⟨o, e⟩ <;> simp [rfD, PyData.depth, PyData.depthAll]
theorem rfs_lay : ∀ rs : List (Option Rf), PyData.canLayAll0 (rs.map rfD) = true
  | [] => by simp [PyData.canLayAll0]
  | r :: rs => by simp [PyData.canLayAll0, rf_lay r, rfs_lay rs]
theorem rfs_depth : ∀ rs : List (Option Rf), PyData.depthAll (rs.map rfD) ≤ 1
  | [] => by simp [PyData.depthAll]
  | r :: rs => by
    have h1 := rfs_depth rs
    have h2 := rf_depth r
    simp only [List.map_cons, PyData.depthAll]
    omega
theorem rf_shaped (r : Option Rf) : SeqAt.shaped (rfD r) = true := by
  have h := rf_depth r
  unfold SeqAt.shaped
  rw [rf_lay r, decide_eq_true (by omega)]
  rfl
theorem rfs_shaped (rs : List (Option Rf)) : SeqAt.shaped (.list (rs.map rfD)) = true := by
  have h := rfs_depth rs
  have e : PyData.canLay0 (.list (rs.map rfD)) = true := by
    simp only [PyData.canLay0]
    exact rfs_lay rs
  have d : PyData.depth (.list (rs.map rfD)) ≤ 64 := by
    simp only [PyData.depth]
    omega
  unfold SeqAt.shaped
  rw [e, decide_eq_true d]
  rfl
theorem rf_eqv (r q : Option Rf) : PyData.eqv (rfD r) (rfD q) = decide (r = q) := by
  by_cases h : r = q
  · subst h
    rw [decide_eq_true rfl]
    exact SeqAt.eqv_refl _ (rf_lay r)
  · rw [decide_eq_false h]
    have s1 : (Str.ofString "object" == Str.ofString "import") = false := by decide +kernel
    have s2 : (Str.ofString "import" == Str.ofString "object") = false := by decide +kernel
    have s3 : ((Str.ofString "object").cps == (Str.ofString "import").cps) = false := by decide +kernel
    have s4 : ((Str.ofString "import").cps == (Str.ofString "object").cps) = false := by decide +kernel
    rcases r with _ | ⟨i⟩ | ⟨o, e⟩ <;> rcases q with _ | ⟨j⟩ | ⟨o', e'⟩ <;> simp [rfD, PyData.eqv, PyData.eqvAll] at h ⊢ <;> first | done | exact h | (intro z; exact h z) | (decide +kernel)
theorem rf_any (r : Rf) (G : List Rf) : ((G.map some).map rfD).any (fun z => PyData.eqv z (rfD (some r))) = decide (r ∈ G) := by
  induction G with
  | nil => simp
  | cons g G ih =>
    rw [List.map_cons, List.map_cons, List.any_cons, ih, rf_eqv]
    by_cases h : g = r
    · subst h; simp
    · simp [h, Ne.symm h]
theorem paired_back {α β : Type} {F : α → β → Prop} : ∀ {xs : List α} {ys : List β}, Paired F xs ys → ∀ {i : Nat} {y : β}, ys[i]? = some y → ∃ x, xs[i]? = some x ∧ F x y
  | _, _, .nil, _, _, h => by simp at h
  | _, _, .cons r t, 0, _, h => by simp at h; subst h; exact ⟨_, rfl, r⟩
  | _, _, .cons r t, i + 1, _, h => by
    obtain ⟨x, h1, h2⟩ := paired_back t (i := i) (by simpa using h)
    exact ⟨x, by simpa using h1, h2⟩
theorem take_fm {st : List (Option Rf)} {i : Nat} {r : Option Rf} (h : st[i]? = some r) : (st.take (i + 1)).filterMap id = (st.take i).filterMap id ++ r.toList := by
  rw [List.take_add_one, h, List.filterMap_append]
  cases r <;> rfl
theorem take_map {α β : Type} (f : α → Option β) {l : List α} {i : Nat} {x : α} (h : l[i]? = some x) : (l.take (i + 1)).filterMap f = (l.take i).filterMap f ++ (f x).toList := by
  rw [List.take_add_one, h, List.filterMap_append]
  show _ ++ List.filterMap f [x] = _
  cases e : f x with
  | none => rw [List.filterMap_cons_none e]; rfl
  | some y => rw [List.filterMap_cons_some e]; rfl
theorem filterMap_nodup {α β : Type} {f : α → Option β} (inj : ∀ a b y, f a = some y → f b = some y → a = b) : ∀ {l : List α}, l.Nodup → (l.filterMap f).Nodup
  | [], _ => .nil
  | x :: l, h => by
    have h1 := List.nodup_cons.mp h
    cases e : f x with
    | none => rw [List.filterMap_cons_none e]; exact filterMap_nodup inj h1.2
    | some y =>
      rw [List.filterMap_cons_some e, List.nodup_cons]
      refine ⟨fun m => ?_, filterMap_nodup inj h1.2⟩
      obtain ⟨a, ha, e2⟩ := List.mem_filterMap.mp m
      exact h1.1 (inj _ _ _ e2 e ▸ ha)
def prD (x : Int × Int) : PyData := .tuple [.int x.1, .int x.2]
end Com
set_option Elab.async false
set_option linter.all false
set_option maxRecDepth 100000
set_option maxHeartbeats 4000000
/-! B1: records in pieces, by plain lists; a text times a number. -/
namespace Bk
open PySem PySem.Spec PyProof.Rows L2

def mkS (cs : List Nat) : Str := ⟨cs.toArray⟩
theorem mkS_len (cs : List Nat) : (mkS cs).length = cs.length := by
  show cs.toArray.size = _
  simp
theorem mkS_cps (cs : List Nat) : (mkS cs).cps.toList = cs := by simp [mkS]
theorem mkS_app (a b : List Nat) : mkS a ++ mkS b = mkS (a ++ b) := by
  show (⟨a.toArray ++ b.toArray⟩ : Str) = ⟨(a ++ b).toArray⟩
  simp
theorem mkS_one (c : Nat) : (⟨#[c]⟩ : Str) = mkS [c] := rfl

def rRepS : R2 := fun x y H Q => ∃ (c : Nat) (k : Nat), x = .str ⟨#[c]⟩ ∧ y = .int (k : Int) ∧ 1 ≤ k ∧ k ≤ 100000 ∧ Q (.str (mkS (List.replicate k c))) H
theorem foldl_rep (c : Nat) : ∀ (k : Nat) (a : Array Nat), (List.replicate k #[c]).foldl (· ++ ·) a = a ++ (List.replicate k c).toArray
  | 0, a => by simp
  | k + 1, a => by
    rw [List.replicate_succ, List.foldl_cons, foldl_rep c k, List.replicate_succ]
    apply Array.ext'
    simp
theorem op_repS {X : Cx} : OpR X (binaryOp .Mult) rRepS := by
  intro pins s σ H x y v u Q I rx ry h
  obtain ⟨c, k, rfl, rfl, h1, h2, q⟩ := h
  obtain ⟨t, rfl⟩ := rx
  obtain ⟨t', rfl⟩ := ry
  have hl : (⟨#[c]⟩ : Str).length = 1 := rfl
  refine PySem.P.mul_str ?_ (fun _ _ => ?_) (fun _ _ => ?_) ?_
  · rw [decide_eq_false (by omega), decide_eq_false (by omega)]
    rfl
  · rw [hl]
    have : (2 ^ 63 - 1 : Int) / (k : Int) ≥ 1 := by
      rw [ge_iff_le, Int.le_ediv_iff_mul_le (by omega)]
      omega
    show ¬ ((1 : Int) > _)
    omega
  · rw [hl]
    unfold Builtin.Str.tooLong
    rw [decide_eq_false]
    have := sizeLine_eq
    omega
  · rw [if_neg (by omega)]
    by_cases e : k = 1
    · subst e
      rw [if_pos (by rfl)]
      exact ⟨.str _, H, I, ⟨t, rfl⟩, q⟩
    · have e2 : (((k : Int) == 1) || (⟨#[c]⟩ : Str).length == 0) = false := by
        rw [hl]
        have : ((k : Int) == 1) = false := by
          rw [beq_eq_false_iff_ne]
          omega
        rw [this]
        rfl
      rw [e2, if_neg (by decide), foldl_rep, Int.toNat_natCast]
      have e3 : (⟨#[] ++ (List.replicate k c).toArray⟩ : Str) = mkS (List.replicate k c) := by
        unfold mkS
        congr 1
        apply Array.ext'
        simp
      rw [e3]
      refine ⟨?_, .str _, H, I.tok _, ⟨_, rfl⟩, q⟩
      rw [mkS_len, List.length_replicate]
      have := sizeLine_eq
      omega

/-! ### the signs of texts -/
def SG : Str := " !\"#$&'()*+,-./0123456789:;<=>?@ABCDEFGHIJKLMNOPQRSTUVWXYZ[\\]^_`abcdefghijklmnopqrstuvwxyz{|}~"
def sgL : List Nat := List.range' 32 5 ++ List.range' 38 89
theorem SG_eq : SG = mkS sgL := by decide +kernel
theorem sgL_nodup : sgL.Nodup := by decide +kernel
theorem sgL_len : sgL.length = 94 := by decide +kernel
theorem mem_sgL {c : Nat} : c ∈ sgL ↔ 32 ≤ c ∧ c ≤ 126 ∧ c ≠ 37 := by
  unfold sgL
  rw [List.mem_append, List.mem_range'_1, List.mem_range'_1]
  omega
def kvOf (c : Nat) : Key × V := (.inl (c : Int), .str ⟨#[c]⟩)
theorem kv_get (x : Int) : ∀ l : List Nat, valV (l.map kvOf) (.inl x) = if 0 ≤ x ∧ x.toNat ∈ l then some (.str ⟨#[x.toNat]⟩) else none
  | [] => by
    rw [if_neg (fun z => nomatch z.2)]
    rfl
  | c :: l => by
    by_cases h : (c : Int) = x
    · subst h
      rw [List.map_cons, valV_pos (p := kvOf c) (by rfl), if_pos ⟨by omega, by rw [Int.toNat_natCast]; exact List.mem_cons_self⟩, Int.toNat_natCast]
      rfl
    · rw [List.map_cons, valV_neg (p := kvOf c) (fun z => h (Sum.inl.inj z)), kv_get x l]
      by_cases h2 : 0 ≤ x ∧ x.toNat ∈ l
      · rw [if_pos h2, if_pos ⟨h2.1, List.mem_cons_of_mem _ h2.2⟩]
      · rw [if_neg h2, if_neg (fun z => h2 ⟨z.1, by
          rcases List.mem_cons.mp z.2 with e | e
          · exact absurd (by omega) h
          · exact e⟩)]
def sgB (x : Int) : Bool := decide (32 ≤ x ∧ x ≤ 126 ∧ x ≠ 37)
theorem sg_get (x : Int) : valV (sgL.map kvOf) (.inl x) = if sgB x = true then some (.str ⟨#[x.toNat]⟩) else none := by
  rw [kv_get]
  unfold sgB
  by_cases h : 32 ≤ x ∧ x ≤ 126 ∧ x ≠ 37
  · rw [if_pos ⟨by omega, mem_sgL.mpr (by omega)⟩, if_pos (decide_eq_true h)]
  · rw [if_neg (fun z => h (by have := mem_sgL.mp z.2; omega)), decide_eq_false h, if_neg (by decide)]

/-! ### slices -/
theorem drop_take {α : Type} (l : List α) {a b n : Nat} (hn : n = l.length) (h : a ≤ b) : (l.drop (min a n)).take (min b n - min a n) = (l.drop a).take (b - a) := by
  subst hn
  by_cases h1 : a ≤ l.length
  · rw [Nat.min_eq_left h1]
    by_cases h2 : b ≤ l.length
    · rw [Nat.min_eq_left h2]
    · rw [Nat.min_eq_right (by omega), List.take_of_length_le (by rw [List.length_drop]; omega), List.take_of_length_le (by rw [List.length_drop]; omega)]
  · rw [List.drop_of_length_le (by omega), List.drop_of_length_le (by omega)]
    simp
theorem cutS_nat (cs : List Nat) {a b : Nat} (h : a ≤ b) : cutS (mkS cs) (some (a : Int)) (some (b : Int)) = mkS ((cs.drop a).take (b - a)) := by
  unfold cutS
  rw [HT.sIx_nat, HT.sIx_nat, mkS_cps, drop_take cs (mkS_len cs) h]
  rfl
theorem cutV_nat (l : List V) {a b : Nat} (h : a ≤ b) : cutV l (some (a : Int)) (some (b : Int)) = (l.drop a).take (b - a) := by
  unfold cutV
  rw [HT.sIx_nat, HT.sIx_nat, drop_take l rfl h]
def part (cs : List Nat) (k : Nat) : List Nat := (cs.drop (24 * k)).take 24
theorem cut_part (cs : List Nat) (k : Nat) : cutS (mkS cs) (some (24 * (k : Int))) (some (24 * (k : Int) + 24)) = mkS (part cs k) := by
  have e1 : (24 * (k : Int)) = ((24 * k : Nat) : Int) := by omega
  have e2 : (((24 * k : Nat) : Int) + 24) = ((24 * k + 24 : Nat) : Int) := by omega
  rw [e1, e2, cutS_nat cs (by omega)]
  unfold part
  rw [show 24 * k + 24 - 24 * k = 24 by omega]
theorem part_le (cs : List Nat) (k : Nat) : (part cs k).length ≤ 24 := by
  unfold part
  rw [List.length_take]
  omega
def nP (cs : List Nat) : Nat := (cs.length + 23) / 24
theorem part_pos {cs : List Nat} {k : Nat} (h : k < nP cs) : 1 ≤ (part cs k).length := by
  unfold nP at h
  unfold part
  rw [List.length_take, List.length_drop]
  omega
theorem part_mem {cs : List Nat} {k c : Nat} (h : c ∈ part cs k) : c ∈ cs := List.mem_of_mem_drop (List.mem_of_mem_take h)
/-- the block of one piece -/
def blkI (k many number : Nat) (p : List Nat) : List Int :=
  [75, (k : Int), (many : Int), (number : Int) / 256, (number : Int) % 256, (p.length : Int)] ++ p.map (fun c : Nat => (c : Int)) ++ List.replicate (25 - p.length) 0 ++ [75]
def blks (number : Nat) (cs : List Nat) : List (List Int) := (List.range (nP cs)).map fun k => blkI k (nP cs) number (part cs k)
theorem rep_flat (k : Nat) (x : V) : (List.replicate k [x]).flatten = List.replicate k x := by
  induction k with
  | zero => rfl
  | succ k ih => rw [List.replicate_succ, List.flatten_cons, ih, List.replicate_succ]; rfl
theorem blkI_v (k many number : Nat) (p : List Nat) : (blkI k many number p).map V.int =
    [.int 75, .int (k : Int), .int (many : Int), .int ((number : Int) / 256), .int ((number : Int) % 256), .int (p.length : Int)] ++ p.map (fun c : Nat => V.int (c : Int)) ++ List.replicate (25 - p.length) (.int 0) ++ [.int 75] := by
  unfold blkI
  rw [List.map_append, List.map_append, List.map_append, List.map_map, List.map_replicate]
  rfl
theorem blkI_len {k many number : Nat} {p : List Nat} (h : p.length ≤ 24) : (blkI k many number p).length = 32 := by
  unfold blkI
  simp
  omega

/-! ### what a block tells -/
structure Pc where
  b0 : Int
  b1 : Int
  b2 : Int
  b3 : Int
  b4 : Int
  b5 : Int
  m : List Int
  z : Int
def Pc.row (x : Pc) : List Int := [x.b0, x.b1, x.b2, x.b3, x.b4, x.b5] ++ (x.m ++ [x.z])
def Pc.is (x : Pc) : Bool := (decide (x.b0 = 75) && decide (x.z = 75) && decide (x.b1 < x.b2) && decide (1 ≤ x.b5) && decide (x.b5 ≤ 24)) && ((x.m.take x.b5.toNat).all sgB && (x.m.drop x.b5.toNat).all fun c => decide (c = 0))
def Pc.text (x : Pc) : List Nat := (x.m.take x.b5.toNat).map Int.toNat
theorem row_pc : ∀ (b : List Int), b.length = 32 → ∃ x : Pc, x.row = b ∧ x.m.length = 25
  | b0 :: b1 :: b2 :: b3 :: b4 :: b5 :: r, h => by
    have hr : r.length = 26 := by
      simp only [List.length_cons] at h
      omega
    have hne : r ≠ [] := fun z => by rw [z] at hr; cases hr
    refine ⟨⟨b0, b1, b2, b3, b4, b5, r.dropLast, r.getLast hne⟩, ?_, by simp [hr]⟩
    show [b0, b1, b2, b3, b4, b5] ++ (r.dropLast ++ [r.getLast hne]) = _
    rw [List.dropLast_concat_getLast]
    rfl
  | [], h | [_], h | [_, _], h | [_, _, _], h | [_, _, _, _], h | [_, _, _, _, _], h => by simp at h
def pcOf (k many number : Nat) (p : List Nat) : Pc := ⟨75, k, many, (number : Int) / 256, (number : Int) % 256, p.length, p.map (fun c : Nat => (c : Int)) ++ List.replicate (25 - p.length) 0, 75⟩
theorem pcOf_row (k many number : Nat) (p : List Nat) : (pcOf k many number p).row = blkI k many number p := by
  unfold pcOf Pc.row blkI
  simp
theorem pcOf_len {k many number : Nat} {p : List Nat} (h : p.length ≤ 24) : (pcOf k many number p).m.length = 25 := by
  unfold pcOf
  simp
  omega
theorem pcOf_is {k many number : Nat} {p : List Nat} (h1 : 1 ≤ p.length) (h2 : p.length ≤ 24) (hk : k < many) (hs : ∀ c ∈ p, c ∈ sgL) : (pcOf k many number p).is = true := by
  unfold Pc.is pcOf
  simp only [Int.toNat_natCast]
  rw [List.take_left' (by simp), List.drop_left' (by simp)]
  have a1 : (p.map (fun c : Nat => (c : Int))).all sgB = true := by
    rw [List.all_eq_true]
    intro x hx
    obtain ⟨c, hc, rfl⟩ := List.mem_map.mp hx
    have := mem_sgL.mp (hs c hc)
    unfold sgB
    exact decide_eq_true (by omega)
  have a2 : ((List.replicate (25 - p.length) (0 : Int)).all fun c => decide (c = 0)) = true := by
    rw [List.all_eq_true]
    intro x hx
    exact decide_eq_true (List.eq_of_mem_replicate hx)
  rw [a1, a2, decide_eq_true (show (k : Int) < many by omega), decide_eq_true (show (1 : Int) ≤ p.length by omega), decide_eq_true (show (p.length : Int) ≤ 24 by omega)]
  simp
theorem pcOf_text {k many number : Nat} {p : List Nat} : (pcOf k many number p).text = p := by
  unfold Pc.text pcOf
  simp only [Int.toNat_natCast]
  rw [List.take_left' (by simp), List.map_map]
  simp [Function.comp_def]
theorem rgc_pieces {cs : List Nat} (h : cs.length ≤ 100000) : RgC 0 (cs.length : Int) 24 (nP cs) := by
  have e : Builtin.Range.rangeSize 0 (cs.length : Int) 24 = ((nP cs : Nat) : Int) := by
    rw [rangeSize_pos (by decide) (by omega)]
    unfold nP
    omega
  refine ⟨by decide, by decide, ?_, e⟩
  unfold Builtin.Range.small
  rw [e]
  unfold nP Builtin.Range.rangeFitsLong
  rw [if_pos (show (24 : Int) > 0 by decide)]
  simp only [Bool.and_eq_true, Bool.or_eq_true, decide_eq_true_eq, beq_iff_eq]
  omega
theorem pc_no {x : Pc} (h : (!decide (V.int x.b0 = V.int 75)) = true ∨ (!decide (V.int x.z = V.int 75)) = true ∨ x.b1 ≥ x.b2 ∨ ¬ 1 ≤ x.b5 ∨ ¬ x.b5 ≤ 24 ∨ (x.m.take x.b5.toNat).all sgB = false ∨ (x.m.drop x.b5.toNat).all (fun c => decide (c = 0)) = false) : x.is = false := by
  unfold Pc.is
  rcases h with h | h | h | h | h | h | h
  · have : ¬ x.b0 = 75 := by simpa using h
    rw [decide_eq_false this]
    rfl
  · have : ¬ x.z = 75 := by simpa using h
    rw [decide_eq_false this]
    simp
  · rw [decide_eq_false (show ¬ x.b1 < x.b2 by omega)]
    simp
  · rw [decide_eq_false h]
    simp
  · rw [decide_eq_false h]
    simp
  · rw [h]
    simp
  · rw [h]
    simp
theorem nodup_take {c : Nat} : ∀ {l : List Nat} {i : Nat}, l.Nodup → l[i]? = some c → c ∉ l.take i
  | [], _, _, e => by simp at e
  | x :: l, 0, _, _ => by simp
  | x :: l, i + 1, h, e => by
    rw [List.nodup_cons] at h
    rw [List.getElem?_cons_succ] at e
    rw [List.take_succ_cons, List.mem_cons]
    rintro (z | z)
    · subst z
      exact h.1 (List.mem_of_getElem? e)
    · exact nodup_take h.2 e z
theorem map_at {f : Int → V} {l : List Int} {i : Nat} {v : V} (h : (l.map f)[i]? = some v) : ∃ c, l[i]? = some c ∧ v = f c := by
  rw [List.getElem?_map] at h
  cases e : l[i]? with
  | none => rw [e] at h; cases h
  | some c => rw [e] at h; exact ⟨c, rfl, (Option.some.inj h).symm⟩
theorem any_not {f : Int → Bool} {l : List Int} (h : (l.map fun c => !f c).any id = true) : l.all f = false := by
  rw [List.any_map] at h
  obtain ⟨c, hc, e⟩ := List.any_eq_true.mp h
  rw [List.all_eq_false]
  exact ⟨c, hc, by simpa using e⟩
theorem not_any {f : Int → Bool} {l : List Int} (h : ¬ (l.map fun c => !f c).any id = true) : l.all f = true := by
  rw [List.all_eq_true]
  intro c hc
  cases e : f c with
  | true => rfl
  | false =>
    refine absurd ?_ h
    rw [List.any_map, List.any_eq_true]
    exact ⟨c, hc, by simp [e]⟩
theorem join_s : ∀ l : List Int, Str.join (Str.ofString "") (l.map fun c => mkS [c.toNat]) = mkS (l.map Int.toNat)
  | [] => rfl
  | [_] => rfl
  | c :: d :: r => by
    have e0 : (Str.ofString "") = mkS [] := by decide +kernel
    show mkS [c.toNat] ++ Str.ofString "" ++ Str.join (Str.ofString "") ((d :: r).map fun c => mkS [c.toNat]) = _
    rw [join_s (d :: r), e0, mkS_app, mkS_app]
    rfl
theorem join_one (l : List Int) : Txt.join (Str.ofString "") (l.map fun c => mkS [c.toNat]) = mkS (l.map Int.toNat) := (TL.join_eq _ _).trans (join_s l)
theorem SG_len : SG.length = 94 := by
  rw [SG_eq]
  exact (mkS_len sgL).trans sgL_len
theorem sg_at {r : Int} (h0 : 0 ≤ r) (h1 : r < (SG.length : Int)) : ∃ c, atI SG.cps.toList r = some c ∧ c ∈ sgL := by
  rw [SG_len] at h1
  have lt : r.toNat < sgL.length := by
    rw [sgL_len]
    omega
  have h := atI_nat (List.getElem?_eq_getElem lt)
  rw [show ((r.toNat : Nat) : Int) = r by omega] at h
  refine ⟨sgL[r.toNat], ?_, List.getElem_mem lt⟩
  rw [SG_eq, mkS_cps]
  exact h
theorem mkS_nil : Str.ofString "" = mkS [] := by decide +kernel
/-! ### data of numbers -/
def iD (r : List Int) : PyData := .list (r.map PyData.int)
theorem ints_lay : ∀ r : List Int, PyData.canLayAll0 (r.map PyData.int) = true
  | [] => by simp [PyData.canLayAll0]
  | r :: rs => by simp [PyData.canLayAll0, PyData.canLay0, ints_lay rs]
theorem ints_depth : ∀ r : List Int, PyData.depthAll (r.map PyData.int) = 0
  | [] => by simp [PyData.depthAll]
  | r :: rs => by simp [PyData.depthAll, PyData.depth, ints_depth rs]
theorem rows_lay : ∀ r : List (List Int), PyData.canLayAll0 (r.map iD) = true
  | [] => by simp [PyData.canLayAll0]
  | r :: rs => by simp [PyData.canLayAll0, PyData.canLay0, iD, ints_lay r, rows_lay rs]
theorem rows_depth : ∀ r : List (List Int), PyData.depthAll (r.map iD) ≤ 1
  | [] => by simp [PyData.depthAll]
  | r :: rs => by
    have := rows_depth rs
    simp only [List.map_cons, PyData.depthAll, iD, PyData.depth, ints_depth]
    omega
theorem iD_shaped (r : List Int) : SeqAt.shaped (iD r) = true := by
  unfold SeqAt.shaped iD
  rw [show PyData.canLay0 (.list (r.map PyData.int)) = true from by simp only [PyData.canLay0]; exact ints_lay r, decide_eq_true (by simp only [PyData.depth, ints_depth]; omega)]
  rfl
theorem rows_shaped (rs : List (List Int)) : SeqAt.shaped (.list (rs.map iD)) = true := by
  have h := rows_depth rs
  unfold SeqAt.shaped
  rw [show PyData.canLay0 (.list (rs.map iD)) = true from by simp only [PyData.canLay0]; exact rows_lay rs, decide_eq_true (by simp only [PyData.depth]; omega)]
  rfl
theorem shaped_lay {d : PyData} (h : SeqAt.shaped d = true) : d.canLay0 = true := by
  unfold SeqAt.shaped at h
  rw [Bool.and_eq_true] at h
  exact h.1
theorem ints_dp {K : PySem.W.Frag} {H : Hp} : ∀ r : List Int, DpAll K H (r.map V.int) (r.map PyData.int)
  | [] => .nil
  | _ :: r => .cons (.int _) (ints_dp r)
theorem row_dp {K : PySem.W.Frag} {H : Hp} {a : Addr} {r : List Int} (h : SqL K H a (r.map V.int)) : Dp K H (.ref a) (iD r) := .lst h (ints_dp r)
theorem rows_dp {K : PySem.W.Frag} {H : Hp} : ∀ {rs : List (List Int)} {vs : List V}, Paired (fun r v => ∃ a, v = .ref a ∧ H a = some (.lst (r.map V.int))) rs vs → DpAll K H vs (rs.map iD)
  | _, _, .nil => .nil
  | _, _, .cons ⟨a, e, h⟩ t => .cons (e ▸ row_dp (SqL.of h)) (rows_dp t)
/-- what a piece tells, as data -/
def pcD (a b c : Int) (t : Str) : PyData := .tuple [.int a, .int b, .int c, .str t]
theorem strOk_of {cs : List Nat} (h : ∀ c ∈ cs, c < 1114112) : PyData.canLay0 (.str (mkS cs)) = true := by
  simp only [PyData.canLay0]
  unfold PyData.strOk mkS
  rw [Array.all_eq_true']
  intro x hx
  exact decide_eq_true (h x (by simpa using hx))
theorem pcD_shaped {a b c : Int} {cs : List Nat} (h : ∀ c ∈ cs, c < 1114112) : SeqAt.shaped (pcD a b c (mkS cs)) = true := by
  unfold SeqAt.shaped pcD
  rw [show PyData.canLay0 (.tuple [.int a, .int b, .int c, .str (mkS cs)]) = true from by
    have := strOk_of h
    simp only [PyData.canLay0] at this
    simp [PyData.canLay0, PyData.canLayAll0, this], decide_eq_true (by simp [PyData.depth, PyData.depthAll])]
  rfl
theorem pcD_dp {K : PySem.W.Frag} {H : Hp} {p : Addr} {a b c : Int} {t : Str} (h : SqT K H p [.int a, .int b, .int c, .str t]) : Dp K H (.ref p) (pcD a b c t) :=
  .tup h (.cons (.int _) (.cons (.int _) (.cons (.int _) (.cons (.str _) .nil))))
/-! ### the law's own reading -/
def SG2 : Str := " !\"#$?&'()*+,-./0123456789:;<=>?@ABCDEFGHIJKLMNOPQRSTUVWXYZ[\\]^_`abcdefghijklmnopqrstuvwxyz{|}~"
def sg2L : List Nat := List.range' 32 5 ++ 63 :: List.range' 38 89
theorem SG2_eq : SG2 = mkS sg2L := by decide +kernel
theorem SG2_len : SG2.length = 95 := by
  rw [SG2_eq, mkS_len]
  decide +kernel
theorem sg2_at {c : Int} (h : sgB c = true) : atI SG2.cps.toList (c - 32) = some c.toNat := by
  have hb : 32 ≤ c ∧ c ≤ 126 ∧ c ≠ 37 := of_decide_eq_true h
  have all : ∀ k, k < 95 → k ≠ 5 → sg2L[k]? = some (32 + k) := by decide +kernel
  rw [SG2_eq, mkS_cps, show c - 32 = (((c - 32).toNat : Nat) : Int) by omega]
  refine atI_nat ?_
  rw [all (c - 32).toNat (by omega) (by omega)]
  congr 1
  omega
theorem row_31 {x : Pc} (h : x.m.length = 25) : (x.row.map V.int)[31]? = some (.int x.z) := by
  unfold Pc.row
  rw [List.getElem?_map, List.getElem?_append_right (by simp), List.getElem?_append_right (by simp [h])]
  simp [h]
theorem row_len {x : Pc} (h : x.m.length = 25) : x.row.length = 32 := by
  unfold Pc.row
  simp only [List.length_append, List.length_cons, List.length_nil, h]
theorem cut_codes {x : Pc} (h : x.m.length = 25) (h0 : 0 ≤ x.b5) (h1 : x.b5 ≤ 24) : cutV (x.row.map V.int) (some 6) (some (6 + x.b5)) = (x.m.take x.b5.toNat).map V.int := by
  rw [show (6 : Int) + x.b5 = ((6 + x.b5.toNat : Nat) : Int) by omega, show (6 : Int) = ((6 : Nat) : Int) from rfl, cutV_nat _ (by omega)]
  unfold Pc.row
  rw [List.map_append, List.drop_left' (by rfl), show 6 + x.b5.toNat - 6 = x.b5.toNat by omega, List.map_append, List.take_append_of_le_length (by rw [List.length_map]; omega), List.map_take]
theorem cut_behind {x : Pc} (h : x.m.length = 25) (h0 : 0 ≤ x.b5) (h1 : x.b5 ≤ 24) : cutV (x.row.map V.int) (some (6 + x.b5)) (some 31) = (x.m.drop x.b5.toNat).map V.int := by
  have lr : (x.row.map V.int).length = 32 := by rw [List.length_map, row_len h]
  rw [show (6 : Int) + x.b5 = ((6 + x.b5.toNat : Nat) : Int) by omega, show (31 : Int) = ((31 : Nat) : Int) from rfl, cutV_nat _ (by omega)]
  unfold Pc.row
  rw [List.map_append, List.drop_append, List.drop_of_length_le (by simp), List.nil_append, List.map_append]
  rw [show 6 + x.b5.toNat - ([x.b0, x.b1, x.b2, x.b3, x.b4, x.b5].map V.int).length = x.b5.toNat by simp, List.drop_append_of_le_length (by rw [List.length_map]; omega), List.take_left' (by rw [List.length_drop, List.length_map]; omega), List.map_drop]
theorem filter_all {l : List Int} : ((l.filter fun c => !decide (c = 0)) = []) ↔ l.all (fun c => decide (c = 0)) = true := by
  rw [List.filter_eq_nil_iff, List.all_eq_true]
  constructor
  · intro h c hc
    have := h c hc
    cases e : decide (c = 0) with
    | true => rfl
    | false => rw [e] at this; exact absurd rfl this
  · intro h c hc
    rw [h c hc]
    decide
theorem eqv_nil {l : List Int} : PyData.eqv (iD l) (.list []) = decide (l = []) := by
  cases l with
  | nil => decide +kernel
  | cons a r =>
    rw [decide_eq_false (fun z => nomatch z)]
    unfold iD
    rw [List.map_cons]
    rfl
theorem row_31' {x : Pc} (h : x.m.length = 25) : x.row[31]? = some x.z := by
  unfold Pc.row
  rw [List.getElem?_append_right (by simp), List.getElem?_append_right (by simp [h])]
  simp [h]
theorem z_no {x : Pc} (h : x.m.length = 25) (e : x.row[31]? = some 0) : x.is = false := by
  rw [row_31' h] at e
  have : x.z = 0 := Option.some.inj e
  unfold Pc.is
  rw [this]
  simp
theorem b_no {x : Pc} (e : x.row[0]? = some 0) : x.is = false := by
  have : x.b0 = 0 := Option.some.inj e
  unfold Pc.is
  rw [this]
  simp
theorem cut_take (l : List V) {k : Nat} (h : k ≤ l.length) : cutV l none (some (k : Int)) = l.take k := by
  unfold cutV
  rw [HT.sIx_none, HT.sIx_nat, Nat.min_eq_left h]
  rfl
theorem cut_drop (l : List V) {k : Nat} (h : k ≤ l.length) : cutV l (some (k : Int)) none = l.drop k := by
  unfold cutV
  rw [HT.sIx_none, HT.sIx_nat, Nat.min_eq_left h, List.take_of_length_le (by rw [List.length_drop]; omega)]
theorem bx_same {H H' : Hp} {b dg : Addr} {ds : List Int} (s : Same H H') (B : Com.Bx H b dg ds) : Com.Bx H' b dg ds := by
  obtain ⟨n, h1, h2⟩ := B
  exact ⟨n, s _ _ h1, s _ _ h2⟩
theorem paired_get {α β : Type} {R : α → β → Prop} : ∀ {xs : List α} {ys : List β}, Paired R xs ys → ∀ {i : Nat} {x : α}, xs[i]? = some x → ∃ y, ys[i]? = some y ∧ R x y
  | _, _, .nil, _, _, h => by simp at h
  | _, _, .cons r _, 0, _, h => by
    cases h
    exact ⟨_, rfl, r⟩
  | _, _, .cons _ t, i + 1, _, h => by
    rw [List.getElem?_cons_succ] at h
    obtain ⟨y, h1, h2⟩ := paired_get t h
    exact ⟨y, h1, h2⟩
/-- blocks at new places -/
def BlksF (H0 H : Hp) : List (List Int) → List V → Prop := Paired fun r v => ∃ a, v = .ref a ∧ H0 a = none ∧ H a = some (.lst (r.map V.int))
theorem pick14 {y1 y2 : Int} (h0 : 0 ≤ y2) (h1 : y2 < 14) (h : 0 ≤ y1) : ∃ m : Int, atI [V.int 0, .int 10, .int 11, .int 24, .int 31, .int 32, .int 37, .int 72, .int 75, .int 83, .int 126, .int 127, .int 255, .int y1] y2 = some (.int m) ∧ 0 ≤ m := by
  obtain ⟨j, rfl⟩ : ∃ j : Nat, y2 = (j : Int) := ⟨y2.toNat, by omega⟩
  have hj : j < 14 := by omega
  have e : [V.int 0, .int 10, .int 11, .int 24, .int 31, .int 32, .int 37, .int 72, .int 75, .int 83, .int 126, .int 127, .int 255, .int y1] = ([0, 10, 11, 24, 31, 32, 37, 72, 75, 83, 126, 127, 255, y1] : List Int).map V.int := rfl
  have lt : j < ([0, 10, 11, 24, 31, 32, 37, 72, 75, 83, 126, 127, 255, y1] : List Int).length := hj
  refine ⟨[0, 10, 11, 24, 31, 32, 37, 72, 75, 83, 126, 127, 255, y1][j], ?_, ?_⟩
  · rw [e]
    exact atI_nat (by rw [List.getElem?_map, List.getElem?_eq_getElem lt]; rfl)
  · have : ∀ d ∈ ([0, 10, 11, 24, 31, 32, 37, 72, 75, 83, 126, 127, 255, y1] : List Int), 0 ≤ d := by
      intro d hd
      simp only [List.mem_cons, List.not_mem_nil, or_false] at hd
      omega
    exact this _ (List.getElem_mem lt)
/-- [..] + [z] * n + [..] -/
theorem three {σ : L2.St} {H : Hp} {Q : VK} {ta tz tb : TA} {xs ys : List V} {z : V} {n : Nat} (ha : ∀ {H : Hp} {R : List V → Hp → Prop}, R xs H → ta σ H R) (hz : ∀ {H : Hp} {R : List V → Hp → Prop}, R [z] H → tz σ H R) (hb : ∀ {H : Hp} {R : List V → Hp → Prop}, R ys H → tb σ H R)
    (small : xs.length + n + ys.length ≤ 1000) (hq : ∀ (p : Addr) (H' : Hp), Same H H' → H p = none → H' p = some (.lst (xs ++ List.replicate n z ++ ys)) → Q (.ref p) H') :
    tOp rCat (tOp rCat (tLst ta) (tOp rRep (tLst tz) (tC (.int (n : Int))))) (tLst tb) σ H Q := by
  have sz := sizeLine_eq
  refine ha ⟨by omega, fun p1 n1 => ?_⟩
  have s1 : Same H (upd H p1 (.lst xs)) := Com.same_new (Same.refl H) n1
  have h1 : (upd H p1 (.lst xs)) p1 = some (.lst xs) := upd_same
  generalize upd H p1 (.lst xs) = H1 at s1 h1 ⊢
  refine hz ⟨by show 1 ≤ sizeLine; omega, fun p2 n2 => ?_⟩
  have s2 := Com.same_new (o := .lst [z]) s1 n2
  have h12 := Com.same_new (o := .lst [z]) (Same.refl H1) n2 _ _ h1
  have h2 : (upd H1 p2 (.lst [z])) p2 = some (.lst [z]) := upd_same
  generalize upd H1 p2 (.lst [z]) = H2 at s2 h12 h2 ⊢
  refine ⟨p2, n, _, rfl, rfl, h2, by omega, by omega, by rw [Int.toNat_natCast]; simp only [List.length_cons, List.length_nil]; omega, fun p3 n3 => ?_⟩
  rw [Int.toNat_natCast, rep_flat]
  have s3 := Com.same_new (o := .lst (List.replicate n z)) s2 n3
  have h13 := Com.same_new (o := .lst (List.replicate n z)) (Same.refl H2) n3 _ _ h12
  have h3 : (upd H2 p3 (.lst (List.replicate n z))) p3 = some (.lst (List.replicate n z)) := upd_same
  generalize upd H2 p3 (.lst (List.replicate n z)) = H3 at s3 h13 h3 ⊢
  refine ⟨p1, p3, _, _, rfl, rfl, h13, h3, by rw [List.length_replicate]; omega, fun p4 n4 => ?_⟩
  have s4 := Com.same_new (o := .lst (xs ++ List.replicate n z)) s3 n4
  have h4 : (upd H3 p4 (.lst (xs ++ List.replicate n z))) p4 = some (.lst (xs ++ List.replicate n z)) := upd_same
  generalize upd H3 p4 (.lst (xs ++ List.replicate n z)) = H4 at s4 h4 ⊢
  refine hb ⟨by omega, fun p5 n5 => ?_⟩
  have s5 := Com.same_new (o := .lst ys) s4 n5
  have h45 := Com.same_new (o := .lst ys) (Same.refl H4) n5 _ _ h4
  have h5 : (upd H4 p5 (.lst ys)) p5 = some (.lst ys) := upd_same
  generalize upd H4 p5 (.lst ys) = H5 at s5 h45 h5 ⊢
  refine ⟨p4, p5, _, _, rfl, rfl, h45, h5, by rw [List.length_append, List.length_replicate]; omega, fun p6 n6 => ?_⟩
  refine hq p6 _ (Com.same_new s5 n6) ?_ upd_same
  cases e : H p6 with
  | none => rfl
  | some o => exact absurd ((s5 _ _ e).symm.trans n6) (fun z => nomatch z)
end Bk
set_option Elab.async false
set_option linter.all false
/-! Cst: a name of the module, by its value. -/
namespace Nw
open PySem PySem.Spec PyProof.Rows L2
section
variable {X : Cx}
/-- a name of the module, by its value -/
theorem pe_cst {x : Str} {v : V} {pos : Pos} (hg : Gl X x) (h : ∃ u, X.mg x = some u ∧ RelV v u) (hd : (x == ("__debug__" : Str)) = false := by decide) : PE X (.Name x pos) (tC v) :=
  let ⟨_, hm, r⟩ := h
  pe_glob hg hm r hd
end
end Nw
set_option Elab.async false
set_option linter.all false
set_option maxRecDepth 100000
set_option maxHeartbeats 4000000
/-! Dk: a disk by plain lists, and in the heap. -/
namespace Dk
open PySem PySem.Spec PyProof.Rows L2 Com Bk

structure St where
  blocks : List (List Int)
  wait : List (Nat × List Int)
  cuts : Nat
  left : Option Nat
  torn : List Nat
/-- of waiting write number i the first many[i] bytes -/
def storeB (bs : List (List Int)) : List (Nat × List Int) → List Nat → List (List Int)
  | (a, b) :: w, k :: ks => storeB (bs.set a (b.take k ++ (bs.getD a []).drop k)) w ks
  | [], _ => bs
  | _ :: _, [] => bs
def St.store (x : St) (m : List Nat) : St := { x with blocks := storeB x.blocks x.wait m, wait := [] }
def St.cut (x : St) (m : List Nat) : St := { x.store m with cuts := x.cuts + 1, left := none }
def St.full (x : St) : St := x.store (List.replicate x.wait.length 32)
def St.read (x : St) (i : Nat) : List Int := ((x.wait.reverse.find? fun e => decide (e.1 = i)).map (·.2)).getD (x.blocks.getD i [])
/-- sizes -/
structure Fit (x : St) : Prop where
  n1 : 8 ≤ x.blocks.length
  n2 : x.blocks.length ≤ 400
  rows : ∀ r ∈ x.blocks, r.length = 32
  wait : ∀ e ∈ x.wait, e.1 < x.blocks.length ∧ e.2.length = 32
  few : x.wait.length ≤ 1000
  torn : ∀ k ∈ x.torn, k ≤ 32
theorem storeB_len : ∀ (w : List (Nat × List Int)) (m : List Nat) (bs : List (List Int)), (storeB bs w m).length = bs.length
  | [], _, _ => rfl
  | _ :: _, [], _ => rfl
  | (a, b) :: w, k :: ks, bs => by
    show (storeB (bs.set a _) w ks).length = _
    rw [storeB_len w ks, List.length_set]
theorem storeB_rows : ∀ (w : List (Nat × List Int)) (m : List Nat) (bs : List (List Int)), (∀ r ∈ bs, r.length = 32) → (∀ e ∈ w, e.1 < bs.length ∧ e.2.length = 32) → (∀ k ∈ m, k ≤ 32) → ∀ r ∈ storeB bs w m, r.length = 32
  | [], _, _, h, _, _ => h
  | _ :: _, [], _, h, _, _ => h
  | (a, b) :: w, k :: ks, bs, h, hw, hk => by
    have h1 := hw (a, b) List.mem_cons_self
    have h2 := hk k List.mem_cons_self
    refine storeB_rows w ks _ (fun r hr => ?_) (fun e he => by rw [List.length_set]; exact hw e (.tail _ he)) (fun j hj => hk j (.tail _ hj))
    rcases List.mem_or_eq_of_mem_set hr with hr | rfl
    · exact h r hr
    · have h3 : (bs.getD a []).length = 32 := by
        rw [List.getD_eq_getElem?_getD, List.getElem?_eq_getElem h1.1]
        exact h _ (List.getElem_mem h1.1)
      have hb : b.length = 32 := h1.2
      rw [List.length_append, List.length_take, List.length_drop, h3, hb]
      omega
theorem Fit.store {x : St} (f : Fit x) {m : List Nat} (h : ∀ k ∈ m, k ≤ 32) : Fit (x.store m) :=
  ⟨by show 8 ≤ (storeB _ _ _).length; rw [storeB_len]; exact f.n1, by show (storeB _ _ _).length ≤ 400; rw [storeB_len]; exact f.n2, storeB_rows _ _ _ f.rows f.wait h, fun _ h => (nomatch h), Nat.zero_le _, f.torn⟩
theorem Fit.cut {x : St} (f : Fit x) {m : List Nat} (h : ∀ k ∈ m, k ≤ 32) : Fit (x.cut m) := ⟨(f.store h).n1, (f.store h).n2, (f.store h).rows, (f.store h).wait, (f.store h).few, f.torn⟩
theorem storeB_take : ∀ (i : Nat) (w : List (Nat × List Int)) (m : List Nat) (bs : List (List Int)) {e : Nat × List Int} {k : Nat}, w[i]? = some e → m[i]? = some k →
    storeB bs (w.take (i + 1)) (m.take (i + 1)) = (storeB bs (w.take i) (m.take i)).set e.1 (e.2.take k ++ ((storeB bs (w.take i) (m.take i)).getD e.1 []).drop k)
  | 0, e0 :: w, k0 :: m, bs, e, k, h1, h2 => by
    cases h1
    cases h2
    rfl
  | i + 1, (a0, b0) :: w, k0 :: m, bs, e, k, h1, h2 => by
    rw [List.getElem?_cons_succ] at h1 h2
    have := storeB_take i w m (bs.set a0 (b0.take k0 ++ (bs.getD a0 []).drop k0)) h1 h2
    simp only [List.take_succ_cons] at this ⊢
    exact this
  | _, [], _, _, _, _, h1, _ => by simp at h1
  | _, _ :: _, [], _, _, _, _, h2 => by simp at h2
theorem storeB_min : ∀ (w : List (Nat × List Int)) (m : List Nat) (bs : List (List Int)), storeB bs (w.take (min w.length m.length)) (m.take (min w.length m.length)) = storeB bs w m
  | [], m, bs => by simp [storeB]
  | e :: w, [], bs => by simp [storeB]
  | (a, b) :: w, k :: ks, bs => by
    rw [List.length_cons, List.length_cons, Nat.succ_min_succ, List.take_succ_cons, List.take_succ_cons]
    exact storeB_min w ks _

/-! ### in the heap -/
def leftV : Option Nat → V
  | none => .non
  | some n => .int (n : Int)
def df (b w : Addr) (c : Int) (l : V) (t : Addr) : List (Str × V) := [("_blocks", .ref b), ("_waiting", .ref w), ("_cuts", .int c), ("_left", l), ("_torn", .ref t)]
theorem fne : ∀ i j : Fin 5, i ≠ j → (["_blocks", "_waiting", "_cuts", "_left", "_torn"] : List Str)[i] ≠ (["_blocks", "_waiting", "_cuts", "_left", "_torn"] : List Str)[j] := by decide +kernel
theorem ne_bw : ¬ ("_blocks" : Str) = "_waiting" := fne 0 1 (by decide)
theorem ne_bc : ¬ ("_blocks" : Str) = "_cuts" := fne 0 2 (by decide)
theorem ne_bl : ¬ ("_blocks" : Str) = "_left" := fne 0 3 (by decide)
theorem ne_bt : ¬ ("_blocks" : Str) = "_torn" := fne 0 4 (by decide)
theorem ne_wb : ¬ ("_waiting" : Str) = "_blocks" := fne 1 0 (by decide)
theorem ne_wc : ¬ ("_waiting" : Str) = "_cuts" := fne 1 2 (by decide)
theorem ne_wl : ¬ ("_waiting" : Str) = "_left" := fne 1 3 (by decide)
theorem ne_wt : ¬ ("_waiting" : Str) = "_torn" := fne 1 4 (by decide)
theorem ne_cb : ¬ ("_cuts" : Str) = "_blocks" := fne 2 0 (by decide)
theorem ne_cw : ¬ ("_cuts" : Str) = "_waiting" := fne 2 1 (by decide)
theorem ne_cl : ¬ ("_cuts" : Str) = "_left" := fne 2 3 (by decide)
theorem ne_ct : ¬ ("_cuts" : Str) = "_torn" := fne 2 4 (by decide)
theorem ne_lb : ¬ ("_left" : Str) = "_blocks" := fne 3 0 (by decide)
theorem ne_lw : ¬ ("_left" : Str) = "_waiting" := fne 3 1 (by decide)
theorem ne_lc : ¬ ("_left" : Str) = "_cuts" := fne 3 2 (by decide)
theorem ne_lt : ¬ ("_left" : Str) = "_torn" := fne 3 4 (by decide)
theorem ne_tb : ¬ ("_torn" : Str) = "_blocks" := fne 4 0 (by decide)
theorem ne_tw : ¬ ("_torn" : Str) = "_waiting" := fne 4 1 (by decide)
theorem ne_tc : ¬ ("_torn" : Str) = "_cuts" := fne 4 2 (by decide)
theorem ne_tl : ¬ ("_torn" : Str) = "_left" := fne 4 3 (by decide)
theorem look_cons (f g : Str) (y : V) (fs : List (Str × V)) : ((f, y) :: fs).lookup g = if g = f then some y else fs.lookup g := by
  by_cases h : g = f
  · subst h
    simp [List.lookup]
  · have e : (g == f) = false := by simpa using h
    rw [if_neg h]
    simp [List.lookup, e]
theorem putF_same (f : Str) (y z : V) (fs : List (Str × V)) : putF f y ((f, z) :: fs) = (f, y) :: fs := by
  show (if f = f then _ else _) = _
  rw [if_pos rfl]
theorem putF_other {f g : Str} (h : ¬ g = f) (y z : V) (fs : List (Str × V)) : putF f y ((g, z) :: fs) = (g, z) :: putF f y fs := by
  show (if g = f then _ else _) = _
  rw [if_neg h]
section
variable (b w : Addr) (c : Int) (l : V) (t : Addr)
theorem df_b : (df b w c l t).lookup ("_blocks" : Str) = some (.ref b) := by
  unfold df
  rw [look_cons, if_pos rfl]
theorem df_w : (df b w c l t).lookup ("_waiting" : Str) = some (.ref w) := by
  unfold df
  rw [look_cons, if_neg ne_wb, look_cons, if_pos rfl]
theorem df_c : (df b w c l t).lookup ("_cuts" : Str) = some (.int c) := by
  unfold df
  rw [look_cons, if_neg ne_cb, look_cons, if_neg ne_cw, look_cons, if_pos rfl]
theorem df_l : (df b w c l t).lookup ("_left" : Str) = some l := by
  unfold df
  rw [look_cons, if_neg ne_lb, look_cons, if_neg ne_lw, look_cons, if_neg ne_lc, look_cons, if_pos rfl]
theorem df_t : (df b w c l t).lookup ("_torn" : Str) = some (.ref t) := by
  unfold df
  rw [look_cons, if_neg ne_tb, look_cons, if_neg ne_tw, look_cons, if_neg ne_tc, look_cons, if_neg ne_tl, look_cons, if_pos rfl]
theorem put_w (w' : Addr) : putF "_waiting" (.ref w') (df b w c l t) = df b w' c l t := by
  unfold df
  rw [putF_other ne_bw, putF_same]
theorem put_c (c' : Int) : putF "_cuts" (.int c') (df b w c l t) = df b w c' l t := by
  unfold df
  rw [putF_other ne_bc, putF_other ne_wc, putF_same]
theorem put_l (l' : V) : putF "_left" l' (df b w c l t) = df b w c l' t := by
  unfold df
  rw [putF_other ne_bl, putF_other ne_wl, putF_other ne_cl, putF_same]
theorem put_t (t' : Addr) : putF "_torn" (.ref t') (df b w c l t) = df b w c l t' := by
  unfold df
  rw [putF_other ne_bt, putF_other ne_wt, putF_other ne_ct, putF_other ne_lt, putF_same]
theorem df_no {m : Str} (h : m ∉ (["_blocks", "_waiting", "_cuts", "_left", "_torn"] : List Str)) : (df b w c l t).lookup m = none := by
  simp only [List.mem_cons, List.not_mem_nil, or_false, not_or] at h
  obtain ⟨h1, h2, h3, h4, h5⟩ := h
  unfold df
  rw [look_cons, if_neg h1, look_cons, if_neg h2, look_cons, if_neg h3, look_cons, if_neg h4, look_cons, if_neg h5]
  rfl
theorem df_len : (df b w c l t).length < 1000 := by
  show 5 < 1000
  decide
end

/-- the disk x at p, in the region L; as: where its blocks stand -/
structure AtB (C : Addr) (H : Hp) (L : Addr → Prop) (p : Addr) (as : List Addr) (x : St) (dx b w t : Addr) (tq : List (Addr × Addr)) : Prop where
  ins : H p = some (.ins C dx (df b w (x.cuts : Int) (leftV x.left) t))
  hb : H b = some (.lst (as.map V.ref))
  rows : Paired (fun r a => H a = some (.lst (r.map V.int))) x.blocks as
  nd : as.Nodup
  hw : H w = some (.lst (tq.map fun e => V.ref e.1))
  wt : Paired (fun (e : Nat × List Int) (g : Addr × Addr) => H g.1 = some (.tup [.int (e.1 : Int), .ref g.2]) ∧ H g.2 = some (.lst (e.2.map V.int)) ∧ g.2 ∉ as ∧ g.2 ≠ w) x.wait tq
  ht : H t = some (.lst (x.torn.map fun k : Nat => V.int (k : Int)))
  ta : t ∉ as
  wa : w ∉ as
  ba : b ∉ as
  bw : b ≠ w
  wn : w ≠ t
  reg : ∀ a, L a → H a ≠ none
  lp : L p
  lb : L b
  lw : L w
  lt : L t
  la : ∀ a ∈ as, L a
  lg : ∀ g ∈ tq, L g.1 ∧ L g.2
  fit : Fit x
def At (C : Addr) (H : Hp) (L : Addr → Prop) (p : Addr) (as : List Addr) (x : St) : Prop := ∃ dx b w t tq, AtB C H L p as x dx b w t tq
/-- from H, L to H', L': what is not in L stays, what comes to L is new -/
structure Stp (H H' : Hp) (L L' : Addr → Prop) : Prop where
  keep : ∀ a o, ¬ L a → H a = some o → H' a = some o
  up : ∀ a, L a → L' a
  new : ∀ a, L' a → L a ∨ H a = none
theorem Stp.refl (H : Hp) (L : Addr → Prop) : Stp H H L L := ⟨fun _ _ _ h => h, fun _ h => h, fun _ h => .inl h⟩
theorem Stp.trans {H H1 H2 : Hp} {L L1 L2 : Addr → Prop} (a : Stp H H1 L L1) (b : Stp H1 H2 L1 L2) : Stp H H2 L L2 := by
  refine ⟨fun c o n h => b.keep c o (fun z => ?_) (a.keep c o n h), fun c h => b.up c (a.up c h), fun c h => ?_⟩
  · rcases a.new c z with z | z
    · exact n z
    · rw [h] at z
      cases z
  · rcases b.new c h with z | z
    · exact a.new c z
    · by_cases l : L c
      · exact .inl l
      · right
        cases e : H c with
        | none => rfl
        | some o =>
          rw [a.keep c o l e] at z
          cases z
section
variable {C p : Addr} {H H' : Hp} {L L' : Addr → Prop} {as : List Addr} {x : St} {dx b w t : Addr} {tq : List (Addr × Addr)}
theorem AtB.keep (A : AtB C H L p as x dx b w t tq) (k : ∀ a o, L a → H a = some o → H' a = some o) : AtB C H' L p as x dx b w t tq := by
  refine ⟨k _ _ A.lp A.ins, k _ _ A.lb A.hb, ?_, A.nd, k _ _ A.lw A.hw, ?_, k _ _ A.lt A.ht, A.ta, A.wa, A.ba, A.bw, A.wn, fun a l z => ?_, A.lp, A.lb, A.lw, A.lt, A.la, A.lg, A.fit⟩
  · have : ∀ {rs : List (List Int)} {l : List Addr}, Paired (fun r a => H a = some (.lst (r.map V.int))) rs l → (∀ a ∈ l, L a) → Paired (fun r a => H' a = some (.lst (r.map V.int))) rs l := by
      intro rs l h
      induction h with
      | nil => intro _; exact .nil
      | cons e _ ih => intro hl; exact .cons (k _ _ (hl _ List.mem_cons_self) e) (ih fun a ha => hl a (.tail _ ha))
    exact this A.rows A.la
  · have : ∀ {es : List (Nat × List Int)} {gs : List (Addr × Addr)}, Paired (fun (e : Nat × List Int) (g : Addr × Addr) => H g.1 = some (.tup [.int (e.1 : Int), .ref g.2]) ∧ H g.2 = some (.lst (e.2.map V.int)) ∧ g.2 ∉ as ∧ g.2 ≠ w) es gs → (∀ g ∈ gs, L g.1 ∧ L g.2) →
        Paired (fun (e : Nat × List Int) (g : Addr × Addr) => H' g.1 = some (.tup [.int (e.1 : Int), .ref g.2]) ∧ H' g.2 = some (.lst (e.2.map V.int)) ∧ g.2 ∉ as ∧ g.2 ≠ w) es gs := by
      intro es gs h
      induction h with
      | nil => intro _; exact .nil
      | cons e _ ih =>
        intro hl
        obtain ⟨l1, l2⟩ := hl _ List.mem_cons_self
        obtain ⟨h1, h2, h3, h4⟩ := e
        exact .cons ⟨k _ _ l1 h1, k _ _ l2 h2, h3, h4⟩ (ih fun a ha => hl a (.tail _ ha))
    exact this A.wt A.lg
  · cases e : H a with
    | none => exact A.reg a l e
    | some o =>
      rw [k a o l e] at z
      cases z
theorem At.keep (A : At C H L p as x) (k : ∀ a o, L a → H a = some o → H' a = some o) : At C H' L p as x := by
  obtain ⟨dx, b, w, t, tq, B⟩ := A
  exact ⟨dx, b, w, t, tq, B.keep k⟩
theorem At.same (A : At C H L p as x) (s : Same H H') : At C H' L p as x := A.keep fun a o _ e => s a o e
theorem At.fit (A : At C H L p as x) : Fit x := by
  obtain ⟨dx, b, w, t, tq, B⟩ := A
  exact B.fit
theorem At.reg (A : At C H L p as x) : ∀ a, L a → H a ≠ none := by
  obtain ⟨dx, b, w, t, tq, B⟩ := A
  exact B.reg
theorem At.la (A : At C H L p as x) : ∀ a ∈ as, L a := by
  obtain ⟨dx, b, w, t, tq, B⟩ := A
  exact B.la
theorem AtB.len (A : AtB C H L p as x dx b w t tq) : as.length = x.blocks.length := (Paired.length A.rows).symm
theorem AtB.wlen (A : AtB C H L p as x dx b w t tq) : tq.length = x.wait.length := (Paired.length A.wt).symm
theorem Stp.same {s : Same H H'} : Stp H H' L L := ⟨fun a o _ e => s a o e, fun _ h => h, fun _ h => .inl h⟩
end
theorem row_at {α β : Type} {R : α → β → Prop} {xs : List α} {ys : List β} (h : Paired R xs ys) {i : Nat} (hi : i < xs.length) : ∃ (y : β), ys[i]? = some y ∧ R xs[i] y := Bk.paired_get h (List.getElem?_eq_getElem hi)
theorem rows_set {H : Hp} {r' : List Int} {v : List V} (hv : v = r'.map V.int) : ∀ {rs : List (List Int)} {as : List Addr} {i : Nat} {a : Addr}, Paired (fun r c => H c = some (.lst (r.map V.int))) rs as → as.Nodup → as[i]? = some a →
    Paired (fun r c => upd H a (.lst v) c = some (.lst (r.map V.int))) (rs.set i r') as
  | _, _, _, _, .nil, _, h => by simp at h
  | _, _, 0, _, .cons (b := c) (l₂ := cs) e t, nd, h => by
    have hc := Option.some.inj h
    subst hc
    rw [List.nodup_cons] at nd
    rw [List.set_cons_zero]
    refine .cons (by rw [upd_same, hv]) ?_
    have : ∀ {rs : List (List Int)} {l : List Addr}, Paired (fun r c => H c = some (.lst (r.map V.int))) rs l → c ∉ l → Paired (fun r d => upd H c (.lst v) d = some (.lst (r.map V.int))) rs l := by
      intro rs l h
      induction h with
      | nil => intro _; exact .nil
      | cons e _ ih =>
        intro n
        rw [List.mem_cons, not_or] at n
        exact .cons (by rw [upd_ne (Ne.symm n.1)]; exact e) (ih n.2)
    exact this t nd.1
  | _, _, i + 1, a, .cons (b := c) (l₂ := cs) e t, nd, h => by
    rw [List.nodup_cons] at nd
    rw [List.getElem?_cons_succ] at h
    rw [List.set_cons_succ]
    have ne : c ≠ a := fun z => nd.1 (z ▸ List.mem_of_getElem? h)
    exact .cons (by rw [upd_ne ne]; exact e) (rows_set hv t nd.2 h)
theorem rows_get {H : Hp} : ∀ {rs : List (List Int)} {as : List Addr} {i : Nat}, Paired (fun r c => H c = some (.lst (r.map V.int))) rs as → i < rs.length → ∃ a, as[i]? = some a ∧ H a = some (.lst ((rs.getD i []).map V.int))
  | r :: rs, a :: as, 0, .cons e _, _ => ⟨a, rfl, e⟩
  | r :: rs, a :: as, i + 1, .cons _ t, h => by
    obtain ⟨c, h1, h2⟩ := rows_get t (i := i) (by simpa using h)
    exact ⟨c, by rw [List.getElem?_cons_succ]; exact h1, by simpa using h2⟩
  | [], _, _, .nil, h => by simp at h
/-- all stays but as -/
def Fas (as : List Addr) (H H' : Hp) : Prop := ∀ a o, a ∉ as → H a = some o → H' a = some o
theorem paired_all {α β : Type} {R S : α → β → Prop} : ∀ {xs : List α} {ys : List β}, Paired R xs ys → (∀ x y, y ∈ ys → R x y → S x y) → Paired S xs ys
  | _, _, .nil, _ => .nil
  | _, _, .cons e t, h => .cons (h _ _ List.mem_cons_self e) (paired_all t fun x y hy => h x y (.tail _ hy))
theorem paired_rev {α β : Type} {R : α → β → Prop} : ∀ {xs : List α} {ys : List β}, Paired R xs ys → Paired R xs.reverse ys.reverse
  | _, _, .nil => .nil
  | _, _, .cons e t => by
    rw [List.reverse_cons, List.reverse_cons]
    exact paired_app (paired_rev t) (paired_one e)
theorem fnone {H H1 : Hp} {p : Addr} (s : Same H H1) (h : H1 p = none) : H p = none := by
  cases e : H p with
  | none => rfl
  | some o => exact absurd ((s _ _ e).symm.trans h) (fun z => nomatch z)
theorem find_at {α : Type} {f : α → Bool} : ∀ {l : List α} {k : Nat} (h : k < l.length), (l.take k).find? f = none → f l[k] = true → l.find? f = some l[k]
  | a :: l, 0, _, _, e => by
    rw [List.find?_cons_of_pos (by simpa using e)]
    rfl
  | a :: l, k + 1, h, n, e => by
    rw [List.take_succ_cons] at n
    by_cases z : f a = true
    · rw [List.find?_cons_of_pos z] at n
      cases n
    · rw [List.find?_cons_of_neg z] at n
      rw [List.find?_cons_of_neg z]
      exact find_at (by simpa using h) n (by simpa using e)
/-! ### the law's own lists -/
/-- blocks and pending of y, in the region M: at B, at U -/
structure Own (H : Hp) (M : Addr → Prop) (B U : Addr) (bs : List (List Int)) (ws : List (Nat × List Int)) (as : List Addr) (gs : List (Addr × Addr)) : Prop where
  hb : H B = some (.lst (as.map V.ref))
  rows : Paired (fun r a => H a = some (.lst (r.map V.int))) bs as
  hu : H U = some (.lst (gs.map fun g => V.ref g.1))
  wt : Paired (fun (e : Nat × List Int) (g : Addr × Addr) => H g.1 = some (.lst [.int (e.1 : Int), .ref g.2]) ∧ H g.2 = some (.lst (e.2.map V.int))) ws gs
  mB : M B
  mU : M U
  ma : ∀ a ∈ as, M a
  mg : ∀ g ∈ gs, M g.1 ∧ M g.2
  nBU : B ≠ U
  nBa : B ∉ as
  nUa : U ∉ as
  nBg : ∀ g ∈ gs, B ≠ g.1 ∧ B ≠ g.2
  nUg : ∀ g ∈ gs, U ≠ g.1 ∧ U ≠ g.2
def OwnAt (H : Hp) (M : Addr → Prop) (B U : Addr) (bs : List (List Int)) (ws : List (Nat × List Int)) : Prop := ∃ as gs, Own H M B U bs ws as gs
section
variable {H H' : Hp} {M : Addr → Prop} {B U : Addr} {bs : List (List Int)} {ws : List (Nat × List Int)} {as : List Addr} {gs : List (Addr × Addr)}
theorem Own.keep (O : Own H M B U bs ws as gs) (k : ∀ a o, M a → H a = some o → H' a = some o) : Own H' M B U bs ws as gs :=
  ⟨k _ _ O.mB O.hb, paired_all O.rows fun _ a ha h => k _ _ (O.ma a ha) h, k _ _ O.mU O.hu, paired_all O.wt fun _ g hg h => ⟨k _ _ (O.mg g hg).1 h.1, k _ _ (O.mg g hg).2 h.2⟩, O.mB, O.mU, O.ma, O.mg, O.nBU, O.nBa, O.nUa, O.nBg, O.nUg⟩
theorem OwnAt.keep (O : OwnAt H M B U bs ws) (k : ∀ a o, M a → H a = some o → H' a = some o) : OwnAt H' M B U bs ws := by
  obtain ⟨as, gs, O⟩ := O
  exact ⟨as, gs, O.keep k⟩
/-- blocks[i] = f -/
theorem Own.set (O : Own H M B U bs ws as gs) {i : Nat} {f : Addr} {r : List Int} (hf : H f = some (.lst (r.map V.int))) (mf : M f) (nB : f ≠ B) (nU : f ≠ U) (hi : i < bs.length) : Own (upd H B (.lst ((as.set i f).map V.ref))) M B U (bs.set i r) ws (as.set i f) gs := by
  have kp : ∀ {a : Addr} {o : HO}, a ≠ B → H a = some o → upd H B (.lst ((as.set i f).map V.ref)) a = some o := fun {a o} n h => by
    rw [upd_ne n]
    exact h
  refine ⟨upd_same, ?_, kp O.nBU.symm O.hu, paired_all O.wt fun _ g hg h => ⟨kp (O.nBg g hg).1.symm h.1, kp (O.nBg g hg).2.symm h.2⟩, O.mB, O.mU, ?_, O.mg, O.nBU, ?_, ?_, O.nBg, O.nUg⟩
  · have go : ∀ {bs : List (List Int)} {as : List Addr} {i : Nat}, Paired (fun r a => H a = some (.lst (r.map V.int))) bs as → Paired (fun r a => H a = some (.lst (r.map V.int))) (bs.set i r) (as.set i f) := by
      intro bs as i h
      induction h generalizing i with
      | nil => exact .nil
      | cons e t ih =>
        cases i with
        | zero => exact .cons hf t
        | succ i => exact .cons e ih
    refine paired_all (go O.rows) fun r a ha h => kp (fun z => ?_) h
    subst z
    rcases List.mem_or_eq_of_mem_set ha with h | h
    · exact O.nBa h
    · exact nB h.symm
  · intro a ha
    rcases List.mem_or_eq_of_mem_set ha with h | h
    · exact O.ma a h
    · rw [h]
      exact mf
  · intro ha
    rcases List.mem_or_eq_of_mem_set ha with h | h
    · exact O.nBa h
    · exact nB h.symm
  · intro ha
    rcases List.mem_or_eq_of_mem_set ha with h | h
    · exact O.nUa h
    · exact nU h.symm
/-- pending.append([i, f]) -/
theorem Own.add (O : Own H M B U bs ws as gs) {t f : Addr} {i : Nat} {r : List Int} (ht : H t = some (.lst [.int (i : Int), .ref f])) (hf : H f = some (.lst (r.map V.int))) (mt : M t) (mf : M f) (nt : t ≠ B ∧ t ≠ U) (nf : f ≠ B ∧ f ≠ U) :
    Own (upd H U (.lst (gs.map (fun g => V.ref g.1) ++ [.ref t]))) M B U bs (ws ++ [(i, r)]) as (gs ++ [(t, f)]) := by
  have kp : ∀ {a : Addr} {o : HO}, a ≠ U → H a = some o → upd H U (.lst (gs.map (fun g => V.ref g.1) ++ [.ref t])) a = some o := fun {a o} n h => by
    rw [upd_ne n]
    exact h
  refine ⟨kp O.nBU O.hb, paired_all O.rows fun r a ha h => kp (fun z => O.nUa (by rw [← z]; exact ha)) h, by rw [upd_same, List.map_append]; rfl, paired_app (paired_all O.wt fun _ g hg h => ⟨kp (O.nUg g hg).1.symm h.1, kp (O.nUg g hg).2.symm h.2⟩) (paired_one ⟨kp nt.2 ht, kp nf.2 hf⟩), O.mB, O.mU, O.ma, ?_, O.nBU, O.nBa, O.nUa, ?_, ?_⟩
  · intro g hg
    rcases List.mem_append.mp hg with h | h
    · exact O.mg g h
    · rw [List.mem_singleton.mp h]
      exact ⟨mt, mf⟩
  · intro g hg
    rcases List.mem_append.mp hg with h | h
    · exact O.nBg g h
    · rw [List.mem_singleton.mp h]
      exact ⟨nt.1.symm, nf.1.symm⟩
  · intro g hg
    rcases List.mem_append.mp hg with h | h
    · exact O.nUg g h
    · rw [List.mem_singleton.mp h]
      exact ⟨nt.2.symm, nf.2.symm⟩
/-- pending = [] -/
theorem Own.clear (O : Own H M B U bs ws as gs) {U' : Addr} (hu : H U' = some (.lst [])) (m : M U') (nB : U' ≠ B) (na : U' ∉ as) : Own H M B U' bs [] as [] :=
  ⟨O.hb, O.rows, hu, .nil, O.mB, m, O.ma, fun _ h => (nomatch h), nB.symm, O.nBa, na, fun _ h => (nomatch h), fun _ h => (nomatch h)⟩
theorem Own.more {M' : Addr → Prop} (O : Own H M B U bs ws as gs) (h : ∀ a, M a → M' a) : Own H M' B U bs ws as gs :=
  ⟨O.hb, O.rows, O.hu, O.wt, h _ O.mB, h _ O.mU, fun a ha => h _ (O.ma a ha), fun g hg => ⟨h _ (O.mg g hg).1, h _ (O.mg g hg).2⟩, O.nBU, O.nBa, O.nUa, O.nBg, O.nUg⟩
end
/-- the box, the disk x, the law's blocks and pending -/
structure Wd (C : Addr) (H : Hp) (b dg : Addr) (ds : List Int) (L M : Addr → Prop) (p : Addr) (ps : List Addr) (x : St) (B U : Addr) (bs : List (List Int)) (ws : List (Nat × List Int)) : Prop where
  bx : Bx H b dg ds
  at_ : At C H L p ps x
  own : OwnAt H M B U bs ws
  ml : ∀ a, M a → ¬ L a
  mh : ∀ a, M a → H a ≠ none
  nb : ¬ L b ∧ ¬ M b
  nd : ¬ L dg ∧ ¬ M dg
section
variable {C : Addr} {H H' : Hp} {b dg : Addr} {ds : List Int} {L L' M : Addr → Prop} {p : Addr} {ps : List Addr} {x x' : St} {B U : Addr} {bs : List (List Int)} {ws : List (Nat × List Int)}
theorem Wd.same (W : Wd C H b dg ds L M p ps x B U bs ws) (s : Same H H') : Wd C H' b dg ds L M p ps x B U bs ws :=
  ⟨Bk.bx_same s W.bx, W.at_.same s, W.own.keep fun a o _ h => s _ _ h, W.ml, fun a m z => W.mh a m (fnone s z), W.nb, W.nd⟩
theorem Wd.draw (W : Wd C H b dg ds L M p ps x B U bs ws) (f : Fx b H H') (B' : Bx H' b dg ds) : Wd C H' b dg ds L M p ps x B U bs ws :=
  ⟨B', W.at_.keep fun a o l h => f a o (fun z => W.nb.1 (by rw [← z]; exact l)) h, W.own.keep fun a o m h => f a o (fun z => W.nb.2 (by rw [← z]; exact m)) h, W.ml, (fun a m z => by
    cases e : H a with
    | none => exact W.mh a m e
    | some o => rw [f a o (fun y => W.nb.2 (by rw [← y]; exact m)) e] at z; cases z), W.nb, W.nd⟩
theorem Wd.disk (W : Wd C H b dg ds L M p ps x B U bs ws) (s : Stp H H' L L') (A : At C H' L' p ps x') : Wd C H' b dg ds L' M p ps x' B U bs ws := by
  obtain ⟨n, e1, e2⟩ := W.bx
  have nl : ∀ {a : Addr} {o : HO}, ¬ L a → H a = some o → ¬ L' a := fun {a o} n h z => by
    rcases s.new a z with z | z
    · exact n z
    · rw [h] at z
      cases z
  refine ⟨⟨n, s.keep _ _ W.nb.1 e1, s.keep _ _ W.nd.1 e2⟩, A, W.own.keep fun a o m h => s.keep _ _ (W.ml a m) h, fun a m z => ?_, fun a m z => ?_, ⟨nl W.nb.1 e1, W.nb.2⟩, ⟨nl W.nd.1 e2, W.nd.2⟩⟩
  · rcases s.new a z with z | z
    · exact W.ml a m z
    · exact W.mh a m z
  · cases e : H a with
    | none => exact W.mh a m e
    | some o => rw [s.keep _ _ (W.ml a m) e] at z; cases z
/-- a place that may be the law's from now on -/
theorem Wd.take (W : Wd C H b dg ds L M p ps x B U bs ws) {a : Addr} (h : H a ≠ none) (l : ¬ L a) (n1 : a ≠ b) (n2 : a ≠ dg) : Wd C H b dg ds L (fun c => M c ∨ c = a) p ps x B U bs ws := by
  obtain ⟨as, gs, O⟩ := W.own
  refine ⟨W.bx, W.at_, ⟨as, gs, O.more fun _ m => .inl m⟩, ?_, ?_, ⟨W.nb.1, ?_⟩, ⟨W.nd.1, ?_⟩⟩
  · rintro c (m | rfl)
    · exact W.ml c m
    · exact l
  · rintro c (m | rfl)
    · exact W.mh c m
    · exact h
  · rintro (m | e)
    · exact W.nb.2 m
    · exact n1 e.symm
  · rintro (m | e)
    · exact W.nd.2 m
    · exact n2 e.symm
/-- the law's own lists change -/
theorem Wd.put (W : Wd C H b dg ds L M p ps x B U bs ws) {a : Addr} {o : HO} {U' : Addr} {bs' : List (List Int)} {ws' : List (Nat × List Int)} (m : M a) (O : OwnAt (upd H a o) M B U' bs' ws') : Wd C (upd H a o) b dg ds L M p ps x B U' bs' ws' := by
  obtain ⟨n, e1, e2⟩ := W.bx
  have na : ∀ {c : Addr}, ¬ M c → c ≠ a := fun {c} n z => n (by rw [z]; exact m)
  refine ⟨⟨n, by rw [upd_ne (na W.nb.2)]; exact e1, by rw [upd_ne (na W.nd.2)]; exact e2⟩, W.at_.keep fun c u l h => ?_, O, W.ml, fun c mc z => ?_, W.nb, W.nd⟩
  · rw [upd_ne (fun z => W.ml a m (by rw [← z]; exact l))]
    exact h
  · by_cases e : c = a
    · rw [e, upd_same] at z
      cases z
    · rw [upd_ne e] at z
      exact W.mh c mc z
theorem Wd.rest (W : Wd C H b dg ds L M p ps x B U bs ws) {U' : Addr} {bs' : List (List Int)} {ws' : List (Nat × List Int)} (O : OwnAt H M B U' bs' ws') : Wd C H b dg ds L M p ps x B U' bs' ws' := ⟨W.bx, W.at_, O, W.ml, W.mh, W.nb, W.nd⟩
/-- a new place is none of those that are known -/
theorem Wd.free (W : Wd C H b dg ds L M p ps x B U bs ws) {a : Addr} (h : H a = none) : ¬ L a ∧ ¬ M a ∧ a ≠ b ∧ a ≠ dg := by
  obtain ⟨n, e1, e2⟩ := W.bx
  exact ⟨fun z => W.at_.reg a z h, fun z => W.mh a z h, ne_of_none e1 h |>.symm, ne_of_none e2 h |>.symm⟩
end
/-! ### reads -/
def readL (bs : List (List Int)) (w : List (Nat × List Int)) (i : Nat) : List Int := ((w.reverse.find? fun e => decide (e.1 = i)).map (·.2)).getD (bs.getD i [])
theorem readL_take {bs : List (List Int)} {w : List (Nat × List Int)} {i k : Nat} {e : Nat × List Int} (h : w[k]? = some e) : readL bs (w.take (k + 1)) i = if e.1 = i then e.2 else readL bs (w.take k) i := by
  unfold readL
  rw [List.take_succ, h]
  show (((w.take k ++ [e]).reverse.find? _).map _).getD _ = _
  rw [List.reverse_append, List.reverse_singleton, List.singleton_append, List.find?_cons]
  by_cases z : e.1 = i
  · rw [decide_eq_true z, if_pos z]
    rfl
  · rw [decide_eq_false z, if_neg z]
/-- a flush, write by write -/
theorem storeB_full : ∀ (w : List (Nat × List Int)) (bs : List (List Int)), (∀ r ∈ bs, r.length = 32) → (∀ e ∈ w, e.1 < bs.length ∧ e.2.length = 32) → storeB bs w (List.replicate w.length 32) = w.foldl (fun c e => c.set e.1 e.2) bs
  | [], _, _, _ => rfl
  | (a, b) :: w, bs, h, hw => by
    have h1 := hw (a, b) List.mem_cons_self
    have hb : b.length = 32 := h1.2
    have h3 : (bs.getD a []).length = 32 := by
      rw [List.getD_eq_getElem?_getD, List.getElem?_eq_getElem h1.1]
      exact h _ (List.getElem_mem h1.1)
    show storeB (bs.set a (b.take 32 ++ (bs.getD a []).drop 32)) w (List.replicate w.length 32) = _
    rw [List.take_of_length_le (by omega), List.drop_of_length_le (by omega), List.append_nil]
    refine storeB_full w _ (fun r hr => ?_) (fun e he => by rw [List.length_set]; exact hw e (.tail _ he))
    rcases List.mem_or_eq_of_mem_set hr with hr | rfl
    · exact h r hr
    · exact hb
end Dk
set_option Elab.async false
set_option linter.all false
set_option maxRecDepth 100000
set_option maxHeartbeats 4000000
/-! S: sorted of any number of tuples of ints, of the keys of a dict: ints, or tuples of ints. -/
namespace Gs
open PySem PySem.Spec PyProof.Rows L2 Gd Com
/-- a tuple of whole numbers -/
def RwV (H : Hp) (r : List Int) (v : V) : Prop := ∃ t, v = .ref t ∧ H t = some (.tup (r.map V.int))
abbrev Rws (H : Hp) : List (List Int) → List V → Prop := Paired (RwV H)
theorem RwV.mono {H H' : Hp} (s : TupS H H') {r : List Int} {v : V} (h : RwV H r v) : RwV H' r v :=
  let ⟨t, e, ht⟩ := h
  ⟨t, e, s _ _ ht⟩
theorem Rws.mono {H H' : Hp} (s : TupS H H') {rs : List (List Int)} {vs : List V} (h : Rws H rs vs) : Rws H' rs vs := Paired.mapP h fun _ _ x => x.mono s
theorem paired_perm {α β : Type} {F : α → β → Prop} {ys xs : List β} (h : ys.Perm xs) : ∀ {rs : List α}, Paired F rs xs → ∃ rs' : List α, rs'.Perm rs ∧ Paired F rs' ys := by
  induction h with
  | nil => exact fun {rs} h => ⟨rs, .refl _, h⟩
  | cons x _ ih =>
    intro rs h
    cases h with
    | cons r t =>
      obtain ⟨rs', p, h'⟩ := ih t
      exact ⟨_ :: rs', p.cons _, .cons r h'⟩
  | swap x y l =>
    intro rs h
    cases h with
    | cons r1 t =>
      cases t with
      | cons r2 t => exact ⟨_, .swap _ _ _, .cons r2 (.cons r1 t)⟩
  | trans _ _ ih1 ih2 =>
    intro rs h
    obtain ⟨r2, p2, h2⟩ := ih2 h
    obtain ⟨r1, p1, h1⟩ := ih1 h2
    exact ⟨r1, p1.trans p2, h1⟩
theorem rws_mem {H : Hp} {rs : List (List Int)} {vs : List V} (h : Rws H rs vs) {x : V} (hx : x ∈ vs) : ∃ r ∈ rs, RwV H r x := by
  obtain ⟨i, hi⟩ := List.mem_iff_getElem?.mp hx
  obtain ⟨r, hr, rx⟩ := paired_back h hi
  exact ⟨r, List.mem_of_getElem? hr, rx⟩
/-- the numbers of a tuple in the heap -/
def hInts (H : Hp) : V → List Int
  | .ref t => match H t with
    | some (.tup vs) => vs.map fun | .int i => i | _ => 0
    | _ => []
  | _ => []
theorem hInts_of {H : Hp} {r : List Int} {v : V} (h : RwV H r v) : hInts H v = r := by
  obtain ⟨t, rfl, ht⟩ := h
  unfold hInts
  simp only [ht]
  rw [List.map_map]
  exact List.map_id r
theorem swo_num {α : Type} (r : α → Int) : SrtO.Swo fun v u => decide (r v < r u) := by
  refine ⟨fun x y h => ?_, fun x y z h1 h2 => ?_⟩
  · have a := of_decide_eq_true h
    exact decide_eq_false (by omega)
  · have a := of_decide_eq_false h1
    have b := of_decide_eq_false h2
    exact decide_eq_false (by omega)
section
variable {prog : Program} {w : World} {A : Around} {s : Shared}
theorem tups_cmp {d : Nat} {B : Int} {vs : List Value} {k : Value → List Int} (hp : ∀ v ∈ vs, TS.TupInts s.heap v (k v) ∧ (k v).length = d ∧ TS.Bd B (k v)) :
    SrtO.Cmp prog w A s (tuples' true) (fun p => p.1 ∈ vs) (SrtO.lt2 fun v u => decide (TS.code B (k v) < TS.code B (k u))) := by
  intro p q hm hm'
  obtain ⟨⟨a, xs, e1, ⟨o, ho, hc, n, hd⟩, i⟩, l1, b1⟩ := hp _ hm
  obtain ⟨⟨a', ys, e2, ⟨o', ho', hc', n', hd'⟩, i'⟩, l2, b2⟩ := hp _ hm'
  show wpAny (model prog w) A (keyLt' (tuples' true) p.1 q.1) (fun r s' => s' = s ∧ r = decide (TS.code B (k p.1) < TS.code B (k q.1))) (fun _ _ => False) s
  generalize k p.1 = ns at i l1 b1 ⊢
  generalize k q.1 = ms at i' l2 b2 ⊢
  rw [e1, e2]
  refine PySem.W.kat_lt ho hd ho' hd' ?_
  have sz : decide (xs.size < ys.size) = false := by
    have h1 := i.length
    have h2 := i'.length
    rw [Array.length_toList] at h1 h2
    exact decide_eq_false (by omega)
  rw [sz]
  exact TS.lex_ints 0 i i' (by omega) b1 b2 ⟨rfl, rfl⟩
theorem tups_sortable {a : Addr} {d : Nat} {B : Int} {vs : List Value} {k : Value → List Int} (h2 : 2 ≤ vs.length) (hd : 1 ≤ d) (hp : ∀ v ∈ vs, TS.TupInts s.heap v (k v) ∧ (k v).length = d ∧ TS.Bd B (k v))
    (ha : ∀ o, s.heap.get? a = some o → o.cls ≠ .type "tuple") : SrtO.SortableO prog w A s a vs fun v u => decide (TS.code B (k v) < TS.code B (k u)) := by
  intro h' keep
  have hp' : ∀ v ∈ vs, TS.TupInts h' v (k v) ∧ (k v).length = d ∧ TS.Bd B (k v) := fun v hm =>
    ⟨(hp v hm).1.keeps fun b o e c => keep b o (fun z => by subst z; exact ha o e c) e, (hp v hm).2⟩
  obtain ⟨fs, k1, k2, k3⟩ := TS.firsts_of (h := h') hd vs fun v hm => ⟨k v, (hp' v hm).1, (hp' v hm).2⟩
  refine ⟨tuples' true, fun Q E hq => ?_, tups_cmp hp'⟩
  refine PySem.W.kat_kind (T := .type "int") k1 (by omega) (fun f hm => ?_) (by rfl) ?_
  · obtain ⟨x, t, rfl⟩ := k3 f hm
    exact PySem.W.Looks.now
  · have ne : (Value.type "int" != Value.type "tuple") = true := by first | decide +kernel | rfl | decide
    rw [ne]
    exact hq
end
section
variable {X : Cx}
/-- sorted(xs), xs tuples of d whole numbers each in [0, B), any number of them -/
def rSortR (K : PySem.W.Frag) : List V → Hp → VK → Prop := fun vs H Q => ∃ (a : Addr) (xs : List V) (rs : List (List Int)) (d : Nat) (B : Int), vs = [V.ref a] ∧ SqL K H a xs ∧ Rws H rs xs ∧ 1 ≤ d ∧ (∀ r ∈ rs, r.length = d ∧ TS.Bd B r) ∧
  ∀ (ms : List (List Int)) (ys : List V) (p : Addr), ms.Perm rs → ms.Pairwise (fun x y => TS.code B x ≤ TS.code B y) → Rws H ms ys → H p = none → Q (.ref p) (upd H p (.lst ys))
/-- what a sorted list of tuples is, said of its rows -/
theorem rows_out {H : Hp} {B : Int} {xs ys : List V} {rs : List (List Int)} (hx : Rws H rs xs) (pm : ys.Perm xs) (pw : ys.Pairwise fun x y => TS.code B (hInts H x) ≤ TS.code B (hInts H y)) :
    ∃ ms : List (List Int), ms.Perm rs ∧ ms.Pairwise (fun x y => TS.code B x ≤ TS.code B y) ∧ Rws H ms ys := by
  obtain ⟨ms, pm', h⟩ := paired_perm pm hx
  refine ⟨ms, pm', ?_, h⟩
  refine List.pairwise_iff_getElem.mpr fun i j hi hj hij => ?_
  obtain ⟨y1, e1, r1⟩ := LiI.paired_get h (List.getElem?_eq_getElem hi)
  obtain ⟨y2, e2, r2⟩ := LiI.paired_get h (List.getElem?_eq_getElem hj)
  obtain ⟨b1, e1⟩ := List.getElem?_eq_some_iff.mp e1
  obtain ⟨b2, e2⟩ := List.getElem?_eq_some_iff.mp e2
  have := (List.pairwise_iff_getElem.mp pw) i j b1 b2 hij
  rwa [e1, e2, hInts_of r1, hInts_of r2] at this
theorem cr_sortR : CallR X (.builtin "sorted") (rSortR X.K) := by
  intro pins s σ H vs us Q I r h
  obtain ⟨a, xs, rs, d, B, rfl, hs, hR, hd, hb, q⟩ := h
  obtain ⟨its, rv, hl, hz⟩ := I.list hs
  obtain ⟨u, rfl, ru⟩ := vals1 r
  obtain rfl : u = Value.ref a := ru
  obtain ⟨e1, e2⟩ := refs_back rv fun x m => by
    obtain ⟨_, _, t, e, _⟩ := rws_mem hR m
    exact ⟨t, e⟩
  have hv : ∀ v ∈ its, TS.TupInts s.heap v (hInts H (backV v)) ∧ (hInts H (backV v)).length = d ∧ TS.Bd B (hInts H (backV v)) := fun v hv => by
    obtain ⟨t, rfl⟩ := e2 v hv
    have hm : V.ref t ∈ xs := by rw [e1]; exact List.mem_map.mpr ⟨_, hv, rfl⟩
    obtain ⟨r, hr, rx⟩ := rws_mem hR hm
    have e3 : hInts H (backV (Value.ref t)) = r := hInts_of rx
    rw [e3]
    obtain ⟨t', e, ht⟩ := rx
    cases e
    exact ⟨tupI_raw I (SqT.of ht), hb r hr⟩
  refine SrtO.sorted_ord (swo_num fun v => TS.code B (hInts H (backV v))) hl.isList (by rw [← rv.length]; exact hz) (fun h2 h₁ a' ha kk => ?_) fun out h1 h2 => ?_
  · refine tups_sortable (s := { s with heap := h₁ }) h2 hd (fun v hm => ⟨(hv v hm).1.keeps fun b o e _ => (kk b o e).2, (hv v hm).2⟩) fun o e => ?_
    have e' : some o = some (seqObj "list" its.toArray 0) := e.symm.trans ha
    cases e'
    intro c
    exact absurd (Value.type.inj c) (by decide)
  · have h3 : ∀ u ∈ out, ∃ a, u = Value.ref a := fun u hu => e2 u (h2.perm.mem_iff.mp hu)
    have pm : (out.map backV).Perm xs := by rw [e1]; exact h2.perm.map backV
    have pw : (out.map backV).Pairwise fun x y => TS.code B (hInts H x) ≤ TS.code B (hInts H y) :=
      List.pairwise_map.mpr (h1.imp fun {x y} h => Int.not_lt.mp (of_decide_eq_false h))
    obtain ⟨ms, pm2, pw2, hm⟩ := rows_out hR pm pw
    obtain ⟨ep, he'⟩ := PyProof.Rows.sortedAll_at s.heap its out.toArray
    refine ⟨.ref _, upd H (s.heap.objs.size + 1) (.lst (out.map backV)), I.laid (t' := s.toks) (fun _ _ => PyProof.Rows.sortedAll_old) (Nat.le_succ _) ⟨?_, out, ep, vals_back h3, he'⟩, rfl, q ms _ _ pm2 pw2 hm (I.hok.fresh (Nat.le_succ _))⟩
    rw [pm.length_eq]
    exact hz
end
end Gs
set_option Elab.async false
set_option linter.all false
set_option maxRecDepth 100000
set_option maxHeartbeats 4000000
/-! S2: sorted of a dict: its keys, whole numbers or tuples of them, any number. -/
namespace Gs
open PySem PySem.Spec PyProof.Rows L2 Gd Com
section
variable {X : Cx}
/-- sorted(d), whole numbers for keys -/
def rSortDI : List V → Hp → VK → Prop := fun xs H Q => ∃ (a : Addr) (kvs : List (Key × V)) (ks : List Int), xs = [.ref a] ∧ Rd H a (.dK kvs) ∧ kvs.map (·.1) = ks.map Sum.inl ∧
  ∀ (ys : List Int) (p : Addr), ys.Perm ks → ys.Pairwise (· ≤ ·) → H p = none → Q (.ref p) (upd H p (.lst (ys.map V.int)))
theorem cr_sortDI (cm : X.calm = true) : CallR X (.builtin "sorted") rSortDI := by
  intro pins s σ H xs us Q I r q
  obtain ⟨a, kvs, ks, rfl, hd, hks, q⟩ := q
  obtain ⟨u, rfl, rx⟩ := vals1 r
  cases rx
  obtain ⟨z, lo, vs, rel, dd⟩ := dk_rd I.hok hd
  obtain ⟨ep, hat⟩ := dd.dictAt
  have hkeys : vs.map (·.1) = ks.map Sum.inl := rel.keys.symm.trans hks
  have hl : vs.length = ks.length := by
    have e := congrArg List.length hkeys
    rwa [List.length_map, List.length_map] at e
  have hz : vs.length ≤ sizeLine := by rw [← rel.length]; exact z
  refine Calls.call_function_entry PyProof.Rows.kind_sorted PyProof.Rows.plain_sorted PyProof.Rows.entry_sorted (PyProof.Rows.args_sorted1 _) ?_
  unfold Builtin.«sorted»
  refine wpAny_bind (m := checkCount "sorted" 1 1 _) (wpAny_pure ?_)
  refine wpAny_bind (PySem.W.kdu_collect (A := X.A.in1) (PySem.W.kdl_dict (knd := mixKind X.prog X.w) (kvs := vs) (ep := ep) lo) (I.ok.hd cm) hat hz fun h' tk acc hk hacc => ?_)
  have hal : acc.toList.length = ks.length := by rw [Array.length_toList, hacc.1, hl]
  have hS : IntsAre acc.toList ks := ints_each hal fun j v e => by
    obtain ⟨k, x, f1, f2⟩ := hacc.2 j v (by rw [← Array.getElem?_toList]; exact e)
    have f3 : (vs.map (·.1))[j]? = some k := by rw [List.getElem?_map, f1]; rfl
    rw [hkeys, List.getElem?_map] at f3
    cases f4 : ks[j]? with
    | none => rw [f4] at f3; cases f3
    | some y =>
      rw [f4] at f3
      have f5 : Sum.inl y = k := Option.some.inj f3
      subst f5
      rcases keyIs_shape (show keyIs (Sum.inl y) v = true from f2) with ⟨i, t, ek, ev⟩ | ⟨z, t, ek, ev⟩
      · cases ek
        exact ⟨y, t, rfl, ev⟩
      · cases ek
  have I1 : Inv X pins σ H { s with heap := h', toks := tk } := I.kept hk
  have zz : acc.toList.length ≤ sizeLine := by rw [hal, ← hl]; exact hz
  refine wpAny_bind (wpAny_newList ?_ zz)
  have hoL : (h'.push (seqObj "list" acc.toList.toArray 0)).get? h'.objs.size = some (seqObj "list" acc.toList.toArray 0) := Heap.get?_push_size _ rfl
  show wpAny _ _ _ _ _ { s with heap := h'.push (seqObj "list" acc.toList.toArray 0), toks := tk }
  refine wpAny_bind (wpAny_holding (wpAny_call_entry PyProof.Rows.slot_list_sort ⟨_, hoL, rfl⟩ PyProof.Rows.entry_list_sort
    (SrtO.list_sort_ord (s := { s with heap := h'.push (seqObj "list" acc.toList.toArray 0), toks := tk }) SrtO.swo_int hoL zz (fun h2 => SrtO.ints_sortable hS h2) fun out h1 h2 => ⟨_, rfl, ?_⟩) (PyProof.Rows.args_list_sort _)))
  obtain ⟨k1, k2, k3⟩ := SrtO.ints_out hS h1 h2
  obtain ⟨ep', he'⟩ := PyProof.Rows.sortedHeap_at (vs := acc.toList) (out := out.toArray) hoL
  have hlen : ((out.map SrtO.iv).map V.int).length ≤ sizeLine := by
    rw [List.length_map, k2.length_eq, ← hl]
    exact hz
  refine wpAny_pure ⟨_, rfl, .ref h'.objs.size, upd H h'.objs.size (.lst ((out.map SrtO.iv).map V.int)), I1.laid (t' := tk) (fun b u e => ?_) (Nat.le_refl _) ⟨hlen, out, ep', vals_of_ints k1, he'⟩, rfl, q _ _ k2 k3 (I1.hok.fresh (Nat.le_refl _))⟩
  have hb : b < h'.objs.size := Heap.lt_size e
  rw [PyProof.Rows.sortedHeap_old (Nat.ne_of_lt hb) (by rw [size_push']; exact Nat.lt_succ_of_lt hb)]
  exact Heap.get?_push_of_some _ e
/-- sorted(d), tuples of d whole numbers for keys -/
def rSortDT : List V → Hp → VK → Prop := fun xs H Q => ∃ (a : Addr) (kvs : List (List Key × V)) (rs : List (List Int)) (d : Nat) (B : Int), xs = [.ref a] ∧ Rd H a (.dT kvs) ∧ kvs.map (·.1) = rs.map (fun l => l.map Sum.inl) ∧ 1 ≤ d ∧ (∀ r ∈ rs, r.length = d ∧ TS.Bd B r) ∧
  ∀ (ms : List (List Int)) (ys : List V) (p : Addr), ms.Perm rs → ms.Pairwise (fun x y => TS.code B x ≤ TS.code B y) → Rws H ms ys → H p = none → Q (.ref p) (upd H p (.lst ys))
theorem keys_rows {H : Hp} : ∀ {kvs : List (List Key × V)} {bs : List Addr} {rs : List (List Int)}, IsKeys H kvs bs → kvs.map (·.1) = rs.map (fun l => l.map Sum.inl) → Rws H rs (bs.map V.ref)
  | _, _, rs, .nil, e => by
    cases rs with
    | nil => exact .nil
    | cons _ _ => cases e
  | _, _, rs, .cons (a := kv) (b := b) h t, e => by
    cases rs with
    | nil => cases e
    | cons r rs =>
      rw [List.map_cons, List.map_cons] at e
      have e1 := (List.cons.inj e).1
      have e2 := (List.cons.inj e).2
      refine .cons ⟨b, rfl, ?_⟩ (keys_rows t e2)
      rw [h, e1, List.map_map]
      rfl
theorem cr_sortDT (cm : X.calm = true) : CallR X (.builtin "sorted") rSortDT := by
  intro pins s σ H xs us Q I r q
  obtain ⟨a, kvs, rs, d, B, rfl, hd, hks, hd1, hb, q⟩ := q
  obtain ⟨u, rfl, rx⟩ := vals1 r
  cases rx
  obtain ⟨z, hs, ks, pr, o, es, ep, ho, hx, hdt, he, hn⟩ := (show ObjOk X.prog X.w H s.heap a (.dT kvs) from hd.ok I.hok)
  have l1 : es.size = ks.length := size_of_entries he
  have l2 : kvs.length = ks.length := Paired.length pr
  refine Calls.call_function_entry PyProof.Rows.kind_sorted PyProof.Rows.plain_sorted PyProof.Rows.entry_sorted (PyProof.Rows.args_sorted1 _) ?_
  unfold Builtin.«sorted»
  refine wpAny_bind (m := checkCount "sorted" 1 1 _) (wpAny_pure ?_)
  refine wpAny_bind (PySem.W.kdu_collect (A := X.A.in1) (kdl_raw hs hx hdt) (I.ok.hd cm) ho (by omega) fun h' tk acc hk it => ?_)
  have ea : acc.toList = (ks.map fun x => x.2.1).map Value.ref := by
    have hl : acc.toList.length = ks.length := by rw [Array.length_toList, it.1]; exact l1
    apply List.ext_getElem?
    intro j
    rw [List.getElem?_map, List.getElem?_map]
    cases hj : acc.toList[j]? with
    | none =>
      have h1 := List.getElem?_eq_none_iff.mp hj
      rw [List.getElem?_eq_none (by omega)]
      all_goals rfl
    | some v =>
      obtain ⟨en, hen, hv⟩ := it.2 j v (by rw [← Array.getElem?_toList]; exact hj)
      have qe := entry_at he j
      rw [hen] at qe
      cases hb : ks[j]? with
      | none =>
        rw [hb] at qe
        exact nomatch (show some en = none from qe)
      | some x =>
        rw [hb] at qe
        have e2 : en = entryOfKey (tupleKind (mixKind X.prog X.w)) x := Option.some.inj qe
        rw [hv, e2]
        rfl
  have I1 : Inv X pins σ H { s with heap := h', toks := tk } := I.kept hk
  have hR : Rws H rs ((ks.map fun x => x.2.1).map V.ref) := keys_rows (isKeys_of pr) hks
  have zz : acc.toList.length ≤ sizeLine := by rw [ea, List.length_map, List.length_map]; omega
  have bk : ∀ t : Addr, backV (Value.ref t) = V.ref t := fun _ => rfl
  have hv : ∀ v ∈ acc.toList, TS.TupInts h' v (hInts H (backV v)) ∧ (hInts H (backV v)).length = d ∧ TS.Bd B (hInts H (backV v)) := fun v hv => by
    rw [ea] at hv
    obtain ⟨t, ht, rfl⟩ := List.mem_map.mp hv
    obtain ⟨r, hr, rx⟩ := rws_mem hR (List.mem_map.mpr ⟨t, ht, rfl⟩)
    rw [bk, hInts_of rx]
    obtain ⟨t', e, ht'⟩ := rx
    cases e
    exact ⟨tupI_raw I1 (SqT.of ht'), hb r hr⟩
  refine wpAny_bind (wpAny_newList ?_ zz)
  have hoL : (h'.push (seqObj "list" acc.toList.toArray 0)).get? h'.objs.size = some (seqObj "list" acc.toList.toArray 0) := Heap.get?_push_size _ rfl
  show wpAny _ _ _ _ _ { s with heap := h'.push (seqObj "list" acc.toList.toArray 0), toks := tk }
  refine wpAny_bind (wpAny_holding (wpAny_call_entry PyProof.Rows.slot_list_sort ⟨_, hoL, rfl⟩ PyProof.Rows.entry_list_sort
    (SrtO.list_sort_ord (s := { s with heap := h'.push (seqObj "list" acc.toList.toArray 0), toks := tk }) (swo_num fun v => TS.code B (hInts H (backV v))) hoL zz (fun h2 => ?_) fun out h1 h2 => ⟨_, rfl, ?_⟩) (PyProof.Rows.args_list_sort _)))
  · refine tups_sortable (s := { s with heap := h'.push (seqObj "list" acc.toList.toArray 0), toks := tk }) h2 hd1 (fun v hm => ⟨(hv v hm).1.keeps fun b o e _ => Heap.get?_push_of_some _ e, (hv v hm).2⟩) fun o e => ?_
    have e' : some o = some (seqObj "list" acc.toList.toArray 0) := e.symm.trans hoL
    cases e'
    intro c
    exact absurd (Value.type.inj c) (by decide)
  · have pm : (out.map backV).Perm ((ks.map fun x => x.2.1).map V.ref) := by
      have := h2.perm.map backV
      rw [ea, List.map_map] at this
      exact this
    have h3 : ∀ u ∈ out, ∃ a, u = Value.ref a := fun u hu => by
      have hm := h2.perm.mem_iff.mp hu
      rw [ea] at hm
      obtain ⟨t, _, e⟩ := List.mem_map.mp hm
      exact ⟨t, e.symm⟩
    have pw : (out.map backV).Pairwise fun x y => TS.code B (hInts H x) ≤ TS.code B (hInts H y) :=
      List.pairwise_map.mpr (h1.imp fun {x y} h => Int.not_lt.mp (of_decide_eq_false h))
    obtain ⟨ms, pm2, pw2, hm⟩ := rows_out hR pm pw
    obtain ⟨ep', he'⟩ := PyProof.Rows.sortedHeap_at (vs := acc.toList) (out := out.toArray) hoL
    refine wpAny_pure ⟨_, rfl, .ref h'.objs.size, upd H h'.objs.size (.lst (out.map backV)), I1.laid (t' := tk) (fun b u e => ?_) (Nat.le_refl _) ⟨?_, out, ep', vals_back h3, he'⟩, rfl, q ms _ _ pm2 pw2 hm (I1.hok.fresh (Nat.le_refl _))⟩
    · have hb : b < h'.objs.size := Heap.lt_size e
      rw [PyProof.Rows.sortedHeap_old (Nat.ne_of_lt hb) (by rw [size_push']; exact Nat.lt_succ_of_lt hb)]
      exact Heap.get?_push_of_some _ e
    · rw [pm.length_eq, List.length_map, List.length_map]
      omega
end
end Gs
set_option Elab.async false
set_option linter.all false
set_option maxRecDepth 100000
set_option maxHeartbeats 4000000
/-! D: dicts with tuples for keys: pop of a key that is there. -/
namespace Gs
open PySem PySem.Spec PyProof.Rows L2 Gd Com
section
variable {K : Type} [DecidableEq K] {prog : Program} {w : World} {knd : HeapKind prog w K}
theorem meetsPopIs {d b : Addr} {k : K} (hd : (d == sysModules) = false) :
    MeetsIn prog w (Builtin.«dict.pop» ⟨[.ref d, .ref b], []⟩) (fun A R s => ∃ xs p, knd.room A.in1 ∧ knd.is s.heap k b ∧ s.heap.DictOfH knd d xs ∧ xs.length ≤ sizeLine ∧ atKey xs k = some p ∧
      ∀ h' tk, h'.DictOfH knd d (DT.dropH xs k) → Heap.SameBut d s.heap h' → R (.ok (.ret p.2)) { s with heap := h', toks := tk }) :=
  .of_wp fun A R s ⟨xs, p, hu, hkey, hm, hsz, hp, hR⟩ => by
    obtain ⟨o, es, ep, ho, hc, hdat, he, his, hn⟩ := id hm
    have hes : es.size = xs.length := size_of_entries he
    have part : (keyPart (Value.ref b)).isSome = false := rfl
    unfold Builtin.«dict.pop»
    refine wpAny_bind ?_
    unfold Builtin.Dict.keyAndDefault
    refine wpAny_bind (wpAny_notOrdered_dict hm.typeIs ?_)
    show wpAny _ _ (pure (d, Value.ref b, none)) _ _ s
    refine wpAny_pure ?_
    simp only [part, Bool.false_eq_true, if_false]
    refine wpAny_bind (wpAny_dictEntries ho hdat (wpAny_bind (wpAny_pure ?_)))
    cases hem : es.isEmpty with
    | true =>
      have h0 : xs = [] := by
        have z : es.size = 0 := by simpa using hem
        exact List.length_eq_zero_iff.mp (by omega)
      rw [h0] at hp
      exact absurd (show (none : Option (Addr × Value)) = some p from hp) (by simp)
    | false =>
      simp only [Bool.false_eq_true, if_false]
      refine wpAny_bind (DT.takeH hu hkey hm hsz (fun no => ?_) fun p' e hp' hev h' hm' hs' => ?_)
      · rw [no] at hp
        cases hp
      · rw [hp] at hp'
        cases hp'
        simp only [Option.isNone_some, Bool.false_eq_true, if_false]
        exact wpAny_bind (wpAny_letGo (wpAny_pure ⟨e.val, rfl, by rw [hev]; exact hR h' _ hm' hs'⟩))
end
section
variable {X : Cx}
/-- d.pop(k), k a tuple that is there -/
def rPopK : V → List V → Hp → VK → Prop := fun x xs H Q => ∃ (a : Addr) (kvs : List (List L2.Key × V)) (k : List L2.Key) (b : Addr) (v : V), x = .ref a ∧ xs = [.ref b] ∧ H a = some (.dT kvs) ∧ H b = some (.tup (k.map kV)) ∧ valV kvs k = some v ∧
  Q v (upd H a (.dT (dropK kvs k)))
theorem mt_popK (hu : X.A.units + 1 < cLine) : MtR X "dict.pop" rPopK := by
  intro pins s σ H x xs v us Q I rx rxs h
  obtain ⟨a, kvs, k, b, v0, rfl, rfl, ha, hb, ev, q⟩ := h
  cases rx
  obtain ⟨u1, rfl, r1⟩ := vals1 rxs
  cases r1
  obtain ⟨z, hd, xs', rel, dd⟩ := L2.dt_of I.hok ha
  have hz : xs'.length ≤ sizeLine := by rw [← Paired.length rel]; exact z
  have r := rel.val k
  rw [ev] at r
  obtain ⟨p, hp, rv⟩ : ∃ p, atKey xs' k = some p ∧ RelV v0 p.2 := by
    cases e : atKey xs' k with
    | none =>
      rw [e] at r
      exact (show False from r).elim
    | some p =>
      rw [e] at r
      exact ⟨p, rfl, r⟩
  refine call_meetsIn PySem.F.slot_dict_pop dd.typeIs PySem.F.entry_dict_pop (PySem.F.args_dict_pop_2 _ _) (meetsPopIs (knd := tupleKind (mixKind X.prog X.w)) (k := k) hd)
    ⟨xs', p, tupleKind_room_in1 hu, key_of I.hok hb, dd, hz, hp, fun h' tk dd' hs => ?_⟩
  obtain ⟨o, es, ep, hq, h2, h3, h4, _, h5⟩ := dd'
  have stay : ∀ (c : Addr) (ys : List V), H c = some (.tup ys) → upd H a (.dT (dropK kvs k)) c = some (.tup ys) := fun c ys ec => by
    rw [upd_ne (ne_of ec ha (fun z => nomatch z))]
    exact ec
  have I2 : Inv X pins σ (upd H a (.dT (dropK kvs k))) { s with heap := h', toks := tk } :=
    d_write I (by rw [ha]; exact True.intro) hs ⟨o, hq⟩ ⟨Nat.le_trans (dropK_le kvs k) z, hd, _, (L2.DX.KT_drop k rel).keeps stay, o, es, ep, hq, h2, h3, h4, h5⟩
  exact ⟨v0, _, I2, rv, q⟩
end
end Gs
set_option Elab.async false
set_option linter.all false
set_option maxRecDepth 100000
set_option maxHeartbeats 4000000
/-! D2: the values and the items of a dict with tuples for keys. -/
namespace Gs
open PySem PySem.Spec PyProof.Rows L2 Gd Com
section
variable {X : Cx} {pins : List (Addr × Obj)} {σ : L2.St} {H : Hp} {s : Shared} {d : Addr} {o : Obj}
/-- what stands at the locked dict -/
theorem frz_at {kvs : List (List Key × V)} (I : Inv X pins σ H s) (h : H d = some (.frz o (.dT kvs))) :
    (d == sysModules) = false ∧ s.heap.get? d = some o ∧ o.ExactDict ∧ ∃ (es : Array DictEntry) (ep : Nat), o.data = .dict es ep ∧ es.size = kvs.length ∧
      ∀ (i : Nat) (k : List Key) (v : V), kvs[i]? = some (k, v) → ∃ (en : DictEntry) (q : Addr), es[i]? = some en ∧ en.key = .ref q ∧ H q = some (.tup (k.map kV)) ∧ RelV v en.val := by
  obtain ⟨hd, z, hs, xs, pr, o', es, ep, ho, hx, hdt, he, _⟩ := I.hok d _ h
  rw [hd] at ho
  cases ho
  have l1 : es.size = xs.length := size_of_entries he
  have l2 : kvs.length = xs.length := Paired.length pr
  refine ⟨hs, hd, hx, es, ep, hdt, by omega, ?_⟩
  intro i k v e
  obtain ⟨b, hb, e1, e2, e3⟩ := L2.paired_get pr e
  have q := entry_at he i
  rw [hb] at q
  exact ⟨_, b.2.1, q, rfl, e2, e3⟩
end
def Itdt (d : Addr) (o : Obj) (kvs : List (List Key × V)) : It :=
  ⟨fun i H => H d = some (.frz o (.dT kvs)) ∧ i < kvs.length, fun i H x H' => H' = H ∧ ∃ k, kvs[i]? = some (k, x), fun i H => H d = some (.frz o (.dT kvs)) ∧ kvs.length ≤ i⟩
def Itit (d : Addr) (o : Obj) (kvs : List (List Key × V)) : It :=
  ⟨fun i H => H d = some (.frz o (.dT kvs)) ∧ i < kvs.length,
    fun i H x H' => ∃ T k v q, kvs[i]? = some (k, v) ∧ x = .ref T ∧ H T = none ∧ H q = some (.tup (k.map kV)) ∧ H' = upd H T (.tup [.ref q, v]),
    fun i H => H d = some (.frz o (.dT kvs)) ∧ kvs.length ≤ i⟩
theorem walk_valsT {d : Addr} {o : Obj} {kvs : List (List Key × V)} : Walk (Itdt d o kvs) kvs.length (fun H => H d = some (.frz o (.dT kvs))) (fun i H x H' => H' = H ∧ ∃ k, kvs[i]? = some (k, x)) :=
  ⟨fun _ _ hi q => ⟨q, hi⟩, fun _ q => ⟨q, Nat.le_refl _⟩, fun _ _ _ _ _ _ y => y⟩
theorem walk_itemsT {d : Addr} {o : Obj} {kvs : List (List Key × V)} : Walk (Itit d o kvs) kvs.length (fun H => H d = some (.frz o (.dT kvs)))
    (fun i H x H' => ∃ T k v q, kvs[i]? = some (k, v) ∧ x = .ref T ∧ H T = none ∧ H q = some (.tup (k.map kV)) ∧ H' = upd H T (.tup [.ref q, v])) :=
  ⟨fun _ _ hi q => ⟨q, hi⟩, fun _ q => ⟨q, Nat.le_refl _⟩, fun _ _ _ _ _ _ y => y⟩
theorem fresh_ep {o : Obj} {es es' : Array DictEntry} {ep ep' : Nat} (h : o.data = .dict es ep) (h' : o.data = .dict es' ep') : es' = es ∧ ep' = ep := by
  rw [h] at h'
  cases h'
  exact ⟨rfl, rfl⟩
section
variable {P : Program} {w : World} {K : PySem.W.Frag} {tg : Expr} {d : Addr} {o : Obj} {es : Array DictEntry} {ep : Nat} {kvs : List (List Key × V)}
theorem turn_valsT (it : Addr) (hod : o.data = .dict es ep) : Turn P w K tg (Itdt d o kvs) [it] it (fun i h => h.IsValIter it d i kvs.length ep) := by
  refine ⟨by simp, ?_, fun i h h' st k => st.at fun oi e => k it (by simp) oi e, ?_, ?_, fun A i s Q E st h => wpAny_pyIter_valiter st h⟩
  · intro i h st b hb
    obtain rfl : b = it := by simpa using hb
    obtain ⟨oi, e, c, dd⟩ := st
    exact ⟨oi, e, fun v z => by rw [dd] at z; cases z⟩
  · intro X hP hw hK hc i pins s σ H E I hf st ⟨hd, hi⟩
    subst hP hw hK
    obtain ⟨g0, g1, g2, g3, g4, g5⟩ := hf it (by simp)
    obtain ⟨hs, at_, hx, es', ep', hdt, hsz, ent⟩ := frz_at I hd
    obtain ⟨rfl, rfl⟩ := fresh_ep hod hdt
    obtain ⟨⟨k, v⟩, hkv⟩ : ∃ p, kvs[i]? = some p := ⟨kvs[i], List.getElem?_eq_getElem hi⟩
    obtain ⟨en, q, hen, _, _, rv⟩ := ent i k v hkv
    obtain ⟨lt, een⟩ := Array.getElem?_eq_some_iff.mp hen
    rw [← hsz] at st
    refine wpAny_pyNext_values_item_raw st ⟨o, at_, hx, hdt⟩ lt fun h' st' sb => ?_
    have J : Inv X pins σ H { s with heap := h' } := I.turned (t' := s.toks) (fun b ob hb e => (sb.2 b hb).trans e) g0 g1 g3 g4 g5
    obtain ⟨oi, e, c, dd⟩ := id st'
    refine ⟨_, rfl, go_of (s := { s with heap := h' }) e c dd (by decide) ⟨v, H, J, by rw [een]; exact rv, ⟨rfl, k, hkv⟩, ?_, fun b hb => (hf b hb).1⟩⟩
    show h'.IsValIter it d (i + 1) kvs.length _
    rw [← hsz]
    exact st'
  · intro X hP hw hK hc i pins s σ H E I hf st ⟨hd, hi⟩
    subst hP hw hK
    obtain ⟨g0, g1, g2, g3, g4, g5⟩ := hf it (by simp)
    obtain ⟨hs, at_, hx, es', ep', hdt, hsz, ent⟩ := frz_at I hd
    obtain ⟨rfl, rfl⟩ := fresh_ep hod hdt
    rw [← hsz] at st
    exact wpAny_pyNext_values_end_raw (I.ok.hd hc) st ⟨o, at_, hx, hdt⟩ (by omega) fun h' eb => ⟨rfl, I.turned (t' := s.toks) (fun b ob hb e => eb b ob hb e) g0 g1 g3 g4 g5⟩
theorem turn_itemsT {elts : List Expr} {kk : Nat} {tpos : Pos} (it : Addr) (hod : o.data = .dict es ep) :
    Turn P w K (.Tuple elts kk tpos) (Itit d o kvs) [it] it (fun i h => ∃ ok ov, IsItemIter h it d i kvs.length ep ok ov) := by
  refine ⟨by simp, ?_, fun i h h' st k => let ⟨ok, ov, e⟩ := st; ⟨ok, ov, k it (by simp) _ e⟩, ?_, ?_, fun A i s Q E st h => let ⟨_, _, e⟩ := st; PySem.W.kcp_self e h⟩
  · intro i h st b hb
    obtain rfl : b = it := by simpa using hb
    obtain ⟨ok, ov, e⟩ := st
    exact ⟨_, e, fun v z => nomatch z⟩
  · intro X hP hw hK hc i pins s σ H E I hf st ⟨hd, hi⟩
    subst hP hw hK
    obtain ⟨hs, at_, hx, es', ep', hdt, hsz, ent⟩ := frz_at I hd
    obtain ⟨rfl, rfl⟩ := fresh_ep hod hdt
    obtain ⟨⟨k, v⟩, hkv⟩ : ∃ p, kvs[i]? = some p := ⟨kvs[i], List.getElem?_eq_getElem hi⟩
    obtain ⟨en, q, hen, hkey, hq, rv⟩ := ent i k v hkv
    obtain ⟨lt, een⟩ := Array.getElem?_eq_some_iff.mp hen
    obtain ⟨ok, ov, he⟩ := st
    rw [← hsz] at he
    have hlt : it < s.heap.objs.size := Heap.lt_size he
    refine wpAny_pyNext_items_item_raw he ⟨o, at_, hx, hdt⟩ lt fun h' ho hT hz hk => ?_
    rw [een] at ho hT
    refine ⟨_, rfl, wpAny_letOwnedTupleGo_items (s := { s with heap := h' }) ho fun h'' he' sb => ?_⟩
    have hT2 : h''.get? s.heap.objs.size = some { cls := .type "tuple", data := .seq #[en.key, en.val] } := (sb.2 _ (Nat.ne_of_gt hlt)).trans hT
    have two : Vals [.ref q, v] [en.key, en.val] := .cons (by rw [hkey]; rfl) (.cons rv .nil)
    have new : ObjOk X.prog X.w (upd H s.heap.objs.size (.tup [.ref q, v])) h'' s.heap.objs.size (.tup [.ref q, v]) :=
      ⟨by show 2 ≤ sizeLine; decide, [en.key, en.val], two, ⟨_, hT2, rfl, _, rfl⟩⟩
    have J : Inv X pins σ (upd H s.heap.objs.size (.tup [.ref q, v])) { s with heap := h'' } :=
      I.turnedNew (t' := s.toks) (ch := [it]) (fun b ob hb e => (sb.2 b (by simpa using hb)).trans (hk b ob (by simpa using hb) e)) hf (Nat.le_refl _) new
    refine ⟨.ref s.heap.objs.size, _, J, rfl, ⟨_, k, v, q, hkv, rfl, I.hok.fresh (Nat.le_refl _), hq, rfl⟩, ⟨en.key, en.val, ?_⟩, fun b hb => ?_⟩
    · rw [← hsz]; exact he'
    · obtain rfl : b = it := by simpa using hb
      rw [upd_ne (Nat.ne_of_lt hlt)]
      exact (hf b (by simp)).1
  · intro X hP hw hK hc i pins s σ H E I hf st ⟨hd, hi⟩
    subst hP hw hK
    obtain ⟨g0, g1, g2, g3, g4, g5⟩ := hf it (by simp)
    obtain ⟨hs, at_, hx, es', ep', hdt, hsz, ent⟩ := frz_at I hd
    obtain ⟨rfl, rfl⟩ := fresh_ep hod hdt
    obtain ⟨ok, ov, he⟩ := st
    rw [← hsz] at he
    exact wpAny_pyNext_items_end_raw (I.ok.hd hc) he ⟨o, at_, hx, hdt⟩ (by omega) fun h' eb => ⟨rfl, I.turned (t' := s.toks) (fun b ob hb e => eb b ob hb e) g0 g1 g3 g4 g5⟩
end
def iValsT (td : TE) : TI := fun σ H R => td σ H fun x H1 => ∃ d o kvs, x = .ref d ∧ H1 d = some (.frz o (.dT kvs)) ∧ R (Itdt d o kvs) H1
def iItemsT (td : TE) : TI := fun σ H R => td σ H fun x H1 => ∃ d o kvs, x = .ref d ∧ H1 d = some (.frz o (.dT kvs)) ∧ R (Itit d o kvs) H1
section
variable {X : Cx} {tg e : Expr} {td : TE} {apos cpos : Pos}
theorem pi_valuesT (he : PE X e td) (ab : attributeBase e "values" X.env (eval e X.env) = eval e X.env := by rfl) (ln : (apos.endLine == cpos.line) = true := by rfl) :
    PI X tg (.Call (.Attribute e "values" apos) [] [] cpos) (iValsT td) := by
  refine ⟨fun pins s σ H R I h => ?_⟩
  refine wpAny_Call_method (T := "dict") (id := "dict.values") ab rfl ln F.plainAttrs_dict F.slot_dict_values F.type_dict_values (thn (he.run pins s σ H _ I h) fun u s1 ⟨x, H1, J, rx, d, o, kvs, ex, hd, q⟩ => ?_)
  subst ex
  obtain rfl : u = Value.ref d := rx
  obtain ⟨hs, at_, hx, es, ep, hdt, hsz, ent⟩ := frz_at J hd
  have raw : s1.heap.DictRaw d es ep := ⟨o, at_, hx, hdt⟩
  refine ⟨raw.typeIs, fun a ea => ?_, ?_⟩
  · cases ea
    exact ⟨o, at_, hx.2.1⟩
  have J2 : Inv X pins σ H1 { s1 with heap := s1.heap.push { cls := .type "dict_values", data := .fields #[.ref d] } } := J.kept (t' := s1.toks) fun b ob q => Heap.get?_push_of_some _ q
  have fin : wpAny (model X.prog X.w) X.A (pyIter (.ref s1.heap.objs.size)) (PIE X pins σ tg R) X.xe { s1 with heap := s1.heap.push { cls := .type "dict_values", data := .fields #[.ref d] } } := by
    refine wpAny_pyIter_values_raw (d := d) ⟨_, Heap.get?_push_size _ rfl, rfl, rfl⟩ (raw.at fun o e => Heap.get?_push_of_some _ e) (pi_one (tk := s1.toks) J2 _ (turn_valsT _ hdt) ⟨_, Heap.get?_push_size _ rfl, rfl, ?_⟩ q)
    rw [hsz] <;> rfl
  show wpAny _ _ (callWith cpos (.builtin "dict.values") [.ref d] [] []) _ X.xe s1
  exact method_meetsIn F.slot_dict_values F.entry_dict_values rfl (PySem.evalArgs_none ⟨rfl, raw.typeIs, F.args_dict_values_1 _, _, meets_dict_values_raw d hs, ⟨_, _, raw⟩, fin⟩)
theorem pi_itemsT {elts : List Expr} {kk : Nat} {tpos : Pos} (he : PE X e td) (ab : attributeBase e "items" X.env (eval e X.env) = eval e X.env := by rfl) (ln : (apos.endLine == cpos.line) = true := by rfl) :
    PI X (.Tuple elts kk tpos) (.Call (.Attribute e "items" apos) [] [] cpos) (iItemsT td) := by
  refine ⟨fun pins s σ H R I h => ?_⟩
  refine wpAny_Call_method (T := "dict") (id := "dict.items") ab rfl ln F.plainAttrs_dict F.slot_dict_items F.type_dict_items (thn (he.run pins s σ H _ I h) fun u s1 ⟨x, H1, J, rx, d, o, kvs, ex, hd, q⟩ => ?_)
  subst ex
  obtain rfl : u = Value.ref d := rx
  obtain ⟨hs, at_, hx, es, ep, hdt, hsz, ent⟩ := frz_at J hd
  have raw : s1.heap.DictRaw d es ep := ⟨o, at_, hx, hdt⟩
  refine ⟨raw.typeIs, fun a ea => ?_, ?_⟩
  · cases ea
    exact ⟨o, at_, hx.2.1⟩
  have J2 : Inv X pins σ H1 { s1 with heap := s1.heap.push { cls := .type "dict_items", data := .fields #[.ref d] } } := J.kept (t' := s1.toks) fun b ob q => Heap.get?_push_of_some _ q
  have fin : wpAny (model X.prog X.w) X.A (pyIter (.ref s1.heap.objs.size)) (PIE X pins σ (.Tuple elts kk tpos) R) X.xe { s1 with heap := s1.heap.push { cls := .type "dict_items", data := .fields #[.ref d] } } := by
    refine wpAny_pyIter_items_raw (d := d) ⟨_, Heap.get?_push_size _ rfl, rfl, rfl⟩ (raw.at fun o e => Heap.get?_push_of_some _ e) (pi_one (tk := s1.toks) J2 _ (turn_itemsT _ hdt) ⟨.none, .none, ?_⟩ q)
    rw [← hsz]
    exact Heap.get?_push_size _ rfl
  show wpAny _ _ (callWith cpos (.builtin "dict.items") [.ref d] [] []) _ X.xe s1
  exact method_meetsIn F.slot_dict_items F.entry_dict_items rfl (PySem.evalArgs_none ⟨rfl, raw.typeIs, F.args_dict_items_1 _, _, meets_dict_items_raw d hs, ⟨_, _, raw⟩, fin⟩)
end
end Gs
set_option Elab.async false
set_option linter.all false
set_option maxRecDepth 100000
set_option maxHeartbeats 4000000
/-! D3: list(d.values()). -/
namespace Gs
open PySem PySem.Spec PyProof.Rows L2 Gd Com
section
variable {X : Cx} {e : Expr} {te : TE} {apos cpos pos p : Pos}
/-- list(d.values()), ints or texts for keys -/
def tListVals (te : TE) : TE := fun σ H Q => te σ H fun x H1 => ∃ (d : Addr) (kvs : List (Key × V)), x = .ref d ∧ H1 d = some (.dK kvs) ∧ ∀ q, H1 q = none → Q (.ref q) (upd H1 q (.lst (kvs.map (·.2))))
theorem pe_listVals (cm : X.calm = true) (he : PE X e te) (hg : Gl X "list") (hm : X.mg "list" = none) (hv : bootBuiltins "list" = some (.type "list"))
    (ab : attributeBase e "values" X.env (eval e X.env) = eval e X.env := by rfl) (ln : (apos.endLine == cpos.line) = true := by rfl)
    (hs : starEach [.Call (.Attribute e "values" apos) [] [] cpos] X.env = (false, eval (.Call (.Attribute e "values" apos) [] [] cpos) X.env) :: starEach [] X.env := by rfl) :
    PE X (.Call (.Name "list" p) [.Call (.Attribute e "values" apos) [] [] cpos] [] pos) (tListVals te) := by
  refine ⟨fun pins s σ H Q I hq => ?_⟩
  refine wpAny_Call_Name_kw (ld_blt I hg hm hv ?_)
  refine PyProof.Rows.callWith_type1 ?_ hs rfl
  rw [hs]
  show wpAny _ _ (spliced ((false, eval (.Call (.Attribute e "values" apos) [] [] cpos) X.env) :: backTo pos (starEach [] X.env))) _ _ s
  refine Calls.spliced_cons ?_
  refine wpAny_Call_method (T := "dict") (id := "dict.values") ab rfl ln F.plainAttrs_dict F.slot_dict_values F.type_dict_values (thn (he.run pins s σ H _ I hq) fun u s1 ⟨x, H1, J, rx, d, kvs, ex, hd, q⟩ => ?_)
  subst ex
  obtain rfl : u = Value.ref d := rx
  obtain ⟨hz, hs0, vs, kv, hdo⟩ := J.hok d _ hd
  obtain ⟨ep, hat⟩ := hdo.dictAt
  have lk : kvs.length = vs.length := Paired.length kv
  have J2 : Inv X pins σ H1 { s1 with heap := s1.heap.push { cls := .type "dict_values", data := .fields #[.ref d] } } := J.kept (t' := s1.toks) fun b ob q => Heap.get?_push_of_some _ q
  refine ⟨hdo.typeIs, hdo.mapOf.noDict, ?_⟩
  show wpAny _ _ (callWith cpos (.builtin "dict.values") [.ref d] [] []) _ X.xe s1
  refine method_meetsIn F.slot_dict_values F.entry_dict_values rfl (PySem.evalArgs_none ⟨rfl, hdo.typeIs, F.args_dict_values_1 _, _, meets_dict_values (mixKind X.prog X.w) d hs0, ⟨vs, hdo⟩, ?_⟩)
  refine Calls.spliced_nil ?_
  have view : (s1.heap.push { cls := .type "dict_values", data := .fields #[.ref d] }).IsValuesView s1.heap.objs.size d := ⟨_, Heap.get?_push_size _ rfl, rfl, rfl⟩
  refine PySem.W.kdl_call (s := { s1 with heap := s1.heap.push { cls := .type "dict_values", data := .fields #[.ref d] } }) (PySem.W.kdl_values (knd := mixKind X.prog X.w) (kvs := vs) (ep := ep) (r := s1.heap.objs.size) (d := d)) (J.ok.hd cm) ⟨view, hat.push _⟩ (by omega) fun h' tk acc c hk hS it => ?_
  have el : acc.toList.length = kvs.length := by rw [Array.length_toList, it.1]; omega
  have rv : Vals (kvs.map (·.2)) acc.toList := vals_of_at (by rw [List.length_map, el]) fun j x u h1 h2 => by
    obtain ⟨k, hk2⟩ := it.2 j u (by rw [← Array.getElem?_toList]; exact h2)
    rw [List.getElem?_map] at h1
    cases e1 : kvs[j]? with
    | none => rw [e1] at h1; cases h1
    | some kx =>
      rw [e1] at h1
      have e2 : kx.2 = x := Option.some.inj h1
      obtain ⟨w', g1, g2⟩ := L2.paired_get kv e1
      rw [hk2] at g1
      cases g1
      rw [← e2]
      exact g2.2
  have nw : H1 (s1.heap.objs.size + 1) = none := J.hok.fresh (Nat.le_succ _)
  have sz : (s1.heap.push { cls := .type "dict_values", data := .fields #[.ref d] }).objs.size = s1.heap.objs.size + 1 := size_push' ..
  rw [sz] at hS
  show EP X pins σ Q (Value.ref (s1.heap.push { cls := .type "dict_values", data := .fields #[.ref d] }).objs.size) _
  rw [sz]
  exact ⟨.ref _, _, J2.laid (t' := tk) (o := .lst (kvs.map (·.2))) hk (by show (s1.heap.push _).objs.size ≤ _; rw [sz]; exact Nat.le_refl _) ⟨by rw [List.length_map]; exact hz, acc.toList, c, rv, by rw [Array.toArray_toList]; exact hS⟩, rfl, q _ nw⟩
end
end Gs
set_option Elab.async false
set_option linter.all false
set_option maxRecDepth 100000
set_option maxHeartbeats 4000000
/-! D4: a call of what an expression gives: one of several defs. -/
namespace Gs
open PySem PySem.Spec PyProof.Rows L2 Gd Com
/-- at f stands a def that keeps sp -/
structure HoldS (P : Program) (w : World) (K : PySem.W.Frag) (mg : Str → Option Value) (base : Heap) (CX : CXT) (k : Nat) (f : Addr) (sp : Sp) : Prop where
  ex : ∃ (fd : FuncData) (ps : List Str), FnOk P w K mg base CX k f fd ps sp ∧ PySem.W.keepIn K (.ref f) = true ∧ Binds K fd ps []
def tCallV (tf : TE) (S : Addr → Option Sp) (E : L2.St → XK) (t : TA) : TE := fun σ H Q => tf σ H fun x H0 => ∃ f sp, x = .ref f ∧ S f = some sp ∧ t σ H0 fun vs H1 => sp vs H1 Q (E σ)
section
variable {X : Cx} {CX : CXT} {k : Nat} {E : L2.St → XK} {pos : Pos} {fe e : Expr} {es : List Expr} {tf : TE} {t : TA}
theorem pe_callV {S : Addr → Option Sp} (hf : PE X fe tf) (A : ∀ f sp, S f = some sp → HoldS X.prog X.w X.K X.mg X.base CX k f sp) (hr : Room k X.A) (hx : ∀ σ, PassesAt CX X σ (E σ)) (ha : PA X (e :: es) t)
    (ev : eval (.Call fe (e :: es) [] pos) X.env = (do callWith pos (← eval fe X.env) [] (backTo pos (starEach (e :: es) X.env)) (backToKw pos (keywordEach [] X.env))) := by rfl)
    (he : starEach (e :: es) X.env = (false, eval e X.env) :: starEach es X.env := by rfl) (hpl : (backTo pos (starEach es X.env)).any (·.1) = false := by rfl) :
    PE X (.Call fe (e :: es) [] pos) (tCallV tf S E t) := by
  refine ⟨fun pins s σ H Q I h => ?_⟩
  rw [ev]
  refine wpAny_bind (thn (hf.run pins s σ H _ I h) fun v s0 ⟨x, H0, I0, rx, f, sp, ex, eS, q⟩ => ?_)
  subst ex
  obtain rfl : v = Value.ref f := rx
  obtain ⟨fd, ps, F, hk, hb⟩ := (A f sp eS).ex
  refine PySem.W.callWith_K (h₀ := X.base) I0.ok.mod.kin hk (thn (ha.run pos pins s0 σ H0 _ I0 q) fun us s1 ⟨vs, H1, I1, r, q1⟩ => ⟨I1.kIn, ?_⟩) he hpl
  exact run_fnS F hr hb (hx σ) I1 r q1
/-- the equation, for a subscript -/
theorem ev_sub {a b : Expr} {p q : Pos} {args : List Expr} {env : Env} : eval (.Call (.Subscript a b p) args [] q) env = (do callWith q (← eval (.Subscript a b p) env) [] (backTo q (starEach args env)) (backToKw q (keywordEach [] env))) := by rfl
end
end Gs
set_option Elab.async false
set_option linter.all false
set_option maxRecDepth 100000
set_option maxHeartbeats 4000000
/-! G3: a list or a tuple walked; a dict comprehension over anything that is walked; d == {}. -/
namespace Gd
open PySem PySem.Spec PyProof.Rows L2
theorem pi_seq {X : Cx} {tg l : Expr} {tl : TE} (hl : PE X l tl) : PI X tg l (fun σ H R => tl σ H fun x H1 => ∃ a, x = .ref a ∧ ((∃ xs, SqL X.K H1 a xs ∧ R (Itl X.K a) H1) ∨ ∃ xs, SqT X.K H1 a xs ∧ R (Itt X.K a) H1)) := by
  constructor
  intro pins s σ H R I h
  refine thn (hl.run pins s σ H _ I h) fun v s1 ⟨x, H1, J, rx, a, e, q⟩ => ?_
  subst e
  obtain rfl : v = Value.ref a := rx
  have kp : ∀ o : Obj, Inv X pins σ H1 { s1 with heap := s1.heap.push o } := fun o => J.kept (t' := s1.toks) fun b u z => Heap.get?_push_of_some _ z
  have fp : ∀ b ∈ [s1.heap.objs.size], FpOk X pins H1 b := fun b hb => by
    rw [List.mem_singleton.mp hb]
    exact J.fpOk (Nat.le_refl _) (J.hok.fresh (Nat.le_refl _))
  rcases q with ⟨xs, hs, q⟩ | ⟨xs, hs, q⟩
  · obtain ⟨its, rv, p, hz⟩ := J.list hs
    exact wpAny_pyIter_list p.isList ⟨s1.heap.objs.size, [s1.heap.objs.size], _, _, H1, rfl, kp _, turn_list a _, ⟨_, Heap.get?_push_size _ rfl, rfl, rfl⟩, fp, q⟩
  · obtain ⟨its, rv, p, hz⟩ := J.tuple hs
    exact wpAny_pyIter_tuple (show s1.heap.IsTuple a its.toArray from p) ⟨s1.heap.objs.size, [s1.heap.objs.size], _, _, H1, rfl, kp _, turn_tuple a _, ⟨_, Heap.get?_push_size _ rfl, rfl, rfl⟩, fp, q⟩

theorem dc_it {J : It} {n : Nat} {G : Hp → Prop} {Y : Nat → Hp → V → Hp → Prop} (w : Walk J n G Y) {g : TG} {tt : TT} {tk tv : TE} {vs : List Nat} {σ : L2.St} {H1 : Hp} {D : Addr} {Qd : Hp → Prop} (Pv : Nat → Hp → Prop)
    (h0 : Pv 0 (upd H1 D (.dK []))) (hG : ∀ i H, i ≤ n → Pv i H → G H)
    (hs : ∀ i x H H', i < n → Pv i H → Y i H x H' → g x (wipe σ vs) H' fun s2 H2 => wipe s2 vs = wipe σ vs ∧ tt s2 H2 fun b H3 =>
      if b = true then tk s2 H3 fun y H4 => tv s2 H4 fun z H5 => ∃ kvs k, y = kV k ∧ H5 D = some (.dK kvs) ∧ kvs.length < sizeLine ∧ Pv (i + 1) (upd H5 D (.dK (putK kvs k z))) else Pv (i + 1) H3)
    (hd : ∀ H, Pv n H → Qd H) :
    ∃ W : Nat → Nat → Hp → Prop, (∃ m, W 0 m (upd H1 D (.dK []))) ∧ ∀ i m H, W i m H → (J.stop i H ∧ Qd H) ∨ (J.go i H ∧ ∃ Nx : Hp → Prop, (∀ H', Nx H' → ∃ m', m' < m ∧ W (i + 1) m' H') ∧
      ∀ x H', J.yld i H x H' → g x (wipe σ vs) H' fun s2 H2 => wipe s2 vs = wipe σ vs ∧ tt s2 H2 fun b H3 =>
        if b = true then tk s2 H3 fun y H4 => tv s2 H4 fun z H5 => ∃ kvs k, y = kV k ∧ H5 D = some (.dK kvs) ∧ kvs.length < sizeLine ∧ Nx (upd H5 D (.dK (putK kvs k z))) else Nx H3) := by
  refine ⟨fun i m H => m + i = n ∧ Pv i H, ⟨n, rfl, h0⟩, ?_⟩
  intro i m H ⟨em, p⟩
  rcases Nat.lt_or_ge i n with l | l
  · have q := hG i H (Nat.le_of_lt l) p
    exact .inr ⟨w.goes i H l q, Pv (i + 1), fun H' p' => ⟨m - 1, by omega, by omega, p'⟩, fun x H' y => hs i x H H' l p (w.yields i H x H' l q y)⟩
  · have e : i = n := by omega
    subst e
    exact .inl ⟨w.stops H (hG i H (Nat.le_refl _) p), hd H p⟩

/-- d == {} -/
def rEqE : R2 := fun x y H Q => ∃ (a b : Addr) (ks : List (L2.Key × V)), x = .ref a ∧ y = .ref b ∧ H a = some (.dK ks) ∧ H b = some (.dK []) ∧ Q (.bl ks.isEmpty) H
theorem op_eqE {X : Cx} (hu : X.A.units < cLine) : OpR X (compareOp .Eq) rEqE := by
  intro pins s σ H x y v u Q I rx ry h
  obtain ⟨a, b, ks, rfl, rfl, ea, eb, q⟩ := h
  obtain rfl : v = Value.ref a := rx
  obtain rfl : u = Value.ref b := ry
  obtain ⟨_, ya, va, ra, da⟩ := (show ObjOk X.prog X.w H s.heap a (.dK ks) from I.hok a _ ea)
  obtain ⟨_, yb, vb, rb, db⟩ := (show ObjOk X.prog X.w H s.heap b (.dK []) from I.hok b _ eb)
  cases rb
  have ll : ks.length = va.length := Paired.length ra
  refine PySem.W.keq_eq (knd := mixKind X.prog X.w) (r := true) ya yb da db hu (fun z => ?_) ?_
  · cases va with
    | nil => exact .nil
    | cons _ _ => simp at z
  · refine ⟨.bl ks.isEmpty, H, I, ?_, q⟩
    show Value.bool _ = Value.bool _
    congr 1
    cases ks with
    | nil =>
      cases va with
      | nil => rfl
      | cons _ _ => simp at ll
    | cons _ _ =>
      cases va with
      | nil => simp at ll
      | cons _ _ => rfl
/-! name = {k: v for ..}: a dict comprehension given to a local -/
abbrev InBlk (X : Cx) (sc : Scope) (P : Cx → Prop) : Prop := ∀ s H C cl fp, P (X.blk s H sc (compEnvC sc cl C X.env) fp)
theorem ps_setDc {X : Cx} {i : Nat} {y : Str} {yp cp sp : Pos} {tg it kx vx : Expr} {fs : List Expr} {sc : Scope} {own : List (Str × Nat)} {ti : TI} {tg' : TG} {tf : TT} {tk tv : TE}
    (calm : X.calm = true) (nd : X.N.Nodup) (ey : X.N[i]? = some y) (loc : X.env.scope.names.lookup y = some .local)
    (sw : swapsWith (.DictComp kx vx [⟨tg, it, fs, 0⟩] sc cp) (some (.Name y yp)) sp.line X.env = pure true)
    (walks : PI X tg it ti) (blk : BlkOk X.N X.env.scope sc own)
    (hT : InBlk X sc fun Y => PG Y tg tg') (hF : InBlk X sc fun Y => PTs Y fs tf) (hK : InBlk X sc fun Y => PE Y kx tk) (hV : InBlk X sc fun Y => PE Y vx tv)
    (fold : ∀ z, foldedSetIterable it X.env z = pure z := by intro _; rfl) :
    PS X (.Assign [.Name y yp] (.DictComp kx vx [⟨tg, it, fs, 0⟩] sc cp) sp) (tAsg (tDc ti tg' tf tk tv (own.map (·.2))) (gName i)) := by
  refine ⟨fun pins s σ H D I w => ?_⟩
  rw [exec_Assign_Name_used _ _ _ _ sw]
  refine wpAny_bind ?_
  refine wpAny_standAt (wpAny_bind ?_)
  show wpAny _ X.A (do
    let _ ← comprehension (.DictComp kx vx [⟨tg, it, fs, 0⟩] sc cp) sc X.env
      (firstIterPos [⟨tg, it, fs, 0⟩] cp) newDict false (eval it X.env) (some (assign (.Name y yp) X.env))) _ _ s
  have w' : tDc ti tg' tf tk tv (own.map (·.2)) σ H (fun x H1 => gName i x σ H1 D.nx) := w
  refine wpAny_bind (thn (dc_core (Qf := fun _ t => SP X pins D .next t) calm nd I walks blk hT hF hK hV fold w' ?_) fun _ _ q => wpAny_pure (wpAny_pure q))
  intro L C t m H' I' q ns f
  show wpAny _ _ (assign (.Name y yp) X.env (.ref L)) _ _ _
  obtain ⟨a0, a1, a2, a3, a4, a5⟩ := f
  refine wpAny_assign_Name (store_ok2 (v := V.ref L) I' nd ey (.inl loc) rfl ?_ (.inr loc))
  rintro t2 I2 ⟨a, sb, ha⟩
  have ne : C ≠ a := ha.elim (fun z => z ▸ a1) fun z e => a4 y a z e.symm
  exact ⟨m, ns.sameBut sb ne, fun _ sc' => ⟨_, H', I2.turned (t' := t2.toks) (fun b o hb e => (sc'.2 b hb).trans e) a0 a1 a3 a4 a5, q⟩⟩
theorem sw_trueD {kx vx : Expr} {gs : List Comprehension} {sc : Scope} {cp yp : Pos} {y : Str} {l : Nat} {env : Env} (fn : env.scope.kind = .function) (loc : env.scope.names.lookup y = some .local)
    (line : (yp.line == cp.line) = true) (no : (sc.names.any fun (n, k) => n == y && (k == .local || k == .cell)) = false) :
    swapsWith (.DictComp kx vx gs sc cp) (some (.Name y yp)) l env = pure true := by
  have hb : env.blockKind = .function := by unfold Env.blockKind; rw [fn]; rfl
  have hk : env.kindOf y = some .local := loc
  unfold swapsWith
  simp only [hb, hk, no, Expr.pos, line]
  rfl
end Gd
set_option Elab.async false
set_option linter.all false
set_option maxRecDepth 100000
set_option maxHeartbeats 4000000
/-! K41a: the law's digits and draws; the disk. -/
namespace K41
open PySem PySem.Spec PyProof.Rows L2 Gd Com Bk Nw Xs Dk
def topx (i : Nat) : Stmt := PySem.Challenge.pw_keptbywitness_k42_cut_on_schedule.main.body.getD i (.Pass ⟨0, 0, 0, 0⟩)
abbrev s_Disk___init__ : Stmt := inClass (topx 10) 0
theorem sc_Disk___init__ : FnScope ["self", "blocks", "_"] ["self", "blocks"] (defScope s_Disk___init__) := ⟨rfl, rfl, rfl, by decide +kernel, rfl, by decide +kernel, by decide +kernel⟩
abbrev s_Disk_size : Stmt := inClass (topx 10) 1
theorem sc_Disk_size : FnScope ["self"] ["self"] (defScope s_Disk_size) := ⟨rfl, rfl, rfl, by decide +kernel, rfl, by decide +kernel, by decide +kernel⟩
abbrev s_Disk_read : Stmt := inClass (topx 10) 2
theorem sc_Disk_read : FnScope ["self", "at", "place", "block"] ["self", "at"] (defScope s_Disk_read) := ⟨rfl, rfl, rfl, by decide +kernel, rfl, by decide +kernel, by decide +kernel⟩
abbrev s_Disk_write : Stmt := inClass (topx 10) 3
theorem sc_Disk_write : FnScope ["self", "at", "block", "byte"] ["self", "at", "block"] (defScope s_Disk_write) := ⟨rfl, rfl, rfl, by decide +kernel, rfl, by decide +kernel, by decide +kernel⟩
abbrev s_Disk_flush : Stmt := inClass (topx 10) 4
theorem sc_Disk_flush : FnScope ["self"] ["self"] (defScope s_Disk_flush) := ⟨rfl, rfl, rfl, by decide +kernel, rfl, by decide +kernel, by decide +kernel⟩
abbrev s_Disk_pending_count : Stmt := inClass (topx 10) 5
theorem sc_Disk_pending_count : FnScope ["self"] ["self"] (defScope s_Disk_pending_count) := ⟨rfl, rfl, rfl, by decide +kernel, rfl, by decide +kernel, by decide +kernel⟩
abbrev s_Disk_cut_count : Stmt := inClass (topx 10) 6
theorem sc_Disk_cut_count : FnScope ["self"] ["self"] (defScope s_Disk_cut_count) := ⟨rfl, rfl, rfl, by decide +kernel, rfl, by decide +kernel, by decide +kernel⟩
abbrev s_Disk_cut_power : Stmt := inClass (topx 10) 7
theorem sc_Disk_cut_power : FnScope ["self", "torn"] ["self", "torn"] (defScope s_Disk_cut_power) := ⟨rfl, rfl, rfl, by decide +kernel, rfl, by decide +kernel, by decide +kernel⟩
abbrev s_Disk_schedule_cut : Stmt := inClass (topx 10) 8
theorem sc_Disk_schedule_cut : FnScope ["self", "many", "torn"] ["self", "many", "torn"] (defScope s_Disk_schedule_cut) := ⟨rfl, rfl, rfl, by decide +kernel, rfl, by decide +kernel, by decide +kernel⟩
abbrev s_Disk__check_at : Stmt := inClass (topx 10) 9
theorem sc_Disk__check_at : FnScope ["self", "at"] ["self", "at"] (defScope s_Disk__check_at) := ⟨rfl, rfl, rfl, by decide +kernel, rfl, by decide +kernel, by decide +kernel⟩
abbrev s_Disk__count_down : Stmt := inClass (topx 10) 10
theorem sc_Disk__count_down : FnScope ["self"] ["self"] (defScope s_Disk__count_down) := ⟨rfl, rfl, rfl, by decide +kernel, rfl, by decide +kernel, by decide +kernel⟩
abbrev s_Disk__cut : Stmt := inClass (topx 10) 11
theorem sc_Disk__cut : FnScope ["self", "torn"] ["self", "torn"] (defScope s_Disk__cut) := ⟨rfl, rfl, rfl, by decide +kernel, rfl, by decide +kernel, by decide +kernel⟩
abbrev s_Disk__store : Stmt := inClass (topx 10) 12
theorem sc_Disk__store : FnScope ["self", "many", "at", "block", "stored"] ["self", "many"] (defScope s_Disk__store) := ⟨rfl, rfl, rfl, by decide +kernel, rfl, by decide +kernel, by decide +kernel⟩
abbrev s_check_torn : Stmt := topx 11
theorem sc_check_torn : FnScope ["torn", "many"] ["torn"] (defScope s_check_torn) := ⟨rfl, rfl, rfl, by decide +kernel, rfl, by decide +kernel, by decide +kernel⟩
abbrev s_law_cell : Stmt := topx 13
theorem sc_law_cell : FnScope ["script", "k"] ["script", "k"] (defScope s_law_cell) := ⟨rfl, rfl, rfl, by decide +kernel, rfl, by decide +kernel, by decide +kernel⟩
abbrev s_law_digits : Stmt := topx 14
theorem sc_law_digits : FnScope ["script", "first", "last", "digits", "k", "cell", "turn", "seed"] ["script", "first", "last"] (defScope s_law_digits) := ⟨rfl, rfl, rfl, by decide +kernel, rfl, by decide +kernel, by decide +kernel⟩
abbrev s_law_draw : Stmt := topx 15
theorem sc_law_draw : FnScope ["box", "many", "at"] ["box", "many"] (defScope s_law_draw) := ⟨rfl, rfl, rfl, by decide +kernel, rfl, by decide +kernel, by decide +kernel⟩
abbrev s_law_torn : Stmt := topx 16
theorem sc_law_torn : FnScope ["box", "many", "kind", "k"] ["box", "many"] (defScope s_law_torn) := ⟨rfl, rfl, rfl, by decide +kernel, rfl, by decide +kernel, by decide +kernel⟩
abbrev s_law_schedule : Stmt := topx 17
theorem sc_law_schedule : FnScope ["disk", "count", "torn", "e"] ["disk", "count", "torn"] (defScope s_law_schedule) := ⟨rfl, rfl, rfl, by decide +kernel, rfl, by decide +kernel, by decide +kernel⟩
abbrev s_law_do_raw : Stmt := topx 18
theorem sc_law_do_raw : FnScope ["disk", "at", "block"] ["disk", "at", "block"] (defScope s_law_do_raw) := ⟨rfl, rfl, rfl, by decide +kernel, rfl, by decide +kernel, by decide +kernel⟩
abbrev s_law_do : Stmt := topx 19
theorem sc_law_do : FnScope ["disk", "at", "block", "told", "e"] ["disk", "at", "block"] (defScope s_law_do) := ⟨rfl, rfl, rfl, by decide +kernel, rfl, by decide +kernel, by decide +kernel⟩
abbrev s_law : Stmt := topx 20
theorem sc_law : FnScope ["script", "box", "size", "disk", "k", "blocks", "pending", "left", "torn", "cuts", "turn", "kind", "handed", "at", "block", "actual", "place", "entry"] ["script"] (defScope s_law) := ⟨rfl, rfl, rfl, by decide +kernel, rfl, by decide +kernel, by decide +kernel⟩
/-- an error class without an __init__ of its own -/
structure PlainE (K : PySem.W.Frag) (mg : Str → Option Value) (nm : Str) (C : Addr) : Prop where
  g : mg nm = some (.ref C)
  x : PySem.W.excIn K C [.type "ValueError", .type "Exception", .type "BaseException", .type "object"] "ValueError.__new__" = true
  k : PySem.W.keepIn K (.ref C) = true
  b : PySem.W.subIn K (.ref C) (.type "BaseException") = some true
  t : PySem.W.typeIn K (.ref C) = some (.type "type")
structure All (P : Program) (K : PySem.W.Frag) (mg : Str → Option Value) (CDisk COutOfRange CPowerCut CKeepError : Addr) : Prop where
  Disk___init__ : ∃ (f : Addr) (fd : FuncData), Fun K "__init__" "Disk.__init__" s_Disk___init__ f fd ∧ Mk K CDisk f ∧ Binds K fd ["self", "blocks"] []
  Disk_size : ∃ (f : Addr) (fd : FuncData), Fun K "size" "Disk.size" s_Disk_size f fd ∧ Meth K CDisk "size" f ∧ Binds K fd ["self"] []
  Disk_read : ∃ (f : Addr) (fd : FuncData), Fun K "read" "Disk.read" s_Disk_read f fd ∧ Meth K CDisk "read" f ∧ Binds K fd ["self", "at"] []
  Disk_write : ∃ (f : Addr) (fd : FuncData), Fun K "write" "Disk.write" s_Disk_write f fd ∧ Meth K CDisk "write" f ∧ Binds K fd ["self", "at", "block"] []
  Disk_flush : ∃ (f : Addr) (fd : FuncData), Fun K "flush" "Disk.flush" s_Disk_flush f fd ∧ Meth K CDisk "flush" f ∧ Binds K fd ["self"] []
  Disk_pending_count : ∃ (f : Addr) (fd : FuncData), Fun K "pending_count" "Disk.pending_count" s_Disk_pending_count f fd ∧ Meth K CDisk "pending_count" f ∧ Binds K fd ["self"] []
  Disk_cut_count : ∃ (f : Addr) (fd : FuncData), Fun K "cut_count" "Disk.cut_count" s_Disk_cut_count f fd ∧ Meth K CDisk "cut_count" f ∧ Binds K fd ["self"] []
  Disk_cut_power : ∃ (f : Addr) (fd : FuncData), Fun K "cut_power" "Disk.cut_power" s_Disk_cut_power f fd ∧ Meth K CDisk "cut_power" f ∧ Binds K fd ["self", "torn"] []
  Disk_schedule_cut : ∃ (f : Addr) (fd : FuncData), Fun K "schedule_cut" "Disk.schedule_cut" s_Disk_schedule_cut f fd ∧ Meth K CDisk "schedule_cut" f ∧ Binds K fd ["self", "many", "torn"] []
  Disk__check_at : ∃ (f : Addr) (fd : FuncData), Fun K "_check_at" "Disk._check_at" s_Disk__check_at f fd ∧ Meth K CDisk "_check_at" f ∧ Binds K fd ["self", "at"] []
  Disk__count_down : ∃ (f : Addr) (fd : FuncData), Fun K "_count_down" "Disk._count_down" s_Disk__count_down f fd ∧ Meth K CDisk "_count_down" f ∧ Binds K fd ["self"] []
  Disk__cut : ∃ (f : Addr) (fd : FuncData), Fun K "_cut" "Disk._cut" s_Disk__cut f fd ∧ Meth K CDisk "_cut" f ∧ Binds K fd ["self", "torn"] []
  Disk__store : ∃ (f : Addr) (fd : FuncData), Fun K "_store" "Disk._store" s_Disk__store f fd ∧ Meth K CDisk "_store" f ∧ Binds K fd ["self", "many"] []
  check_torn : ∃ (f : Addr) (fd : FuncData), Fun K "_check_torn" "_check_torn" s_check_torn f fd ∧ mg "_check_torn" = some (.ref f) ∧ Binds K fd ["torn"] []
  law_cell : ∃ (f : Addr) (fd : FuncData), Fun K "_law_cell" "_law_cell" s_law_cell f fd ∧ mg "_law_cell" = some (.ref f) ∧ Binds K fd ["script", "k"] []
  law_digits : ∃ (f : Addr) (fd : FuncData), Fun K "_law_digits" "_law_digits" s_law_digits f fd ∧ mg "_law_digits" = some (.ref f) ∧ Binds K fd ["script", "first", "last"] []
  law_draw : ∃ (f : Addr) (fd : FuncData), Fun K "_law_draw" "_law_draw" s_law_draw f fd ∧ mg "_law_draw" = some (.ref f) ∧ Binds K fd ["box", "many"] []
  law_torn : ∃ (f : Addr) (fd : FuncData), Fun K "_law_torn" "_law_torn" s_law_torn f fd ∧ mg "_law_torn" = some (.ref f) ∧ Binds K fd ["box", "many"] []
  law_schedule : ∃ (f : Addr) (fd : FuncData), Fun K "_law_schedule" "_law_schedule" s_law_schedule f fd ∧ mg "_law_schedule" = some (.ref f) ∧ Binds K fd ["disk", "count", "torn"] []
  law_do_raw : ∃ (f : Addr) (fd : FuncData), Fun K "_law_do_raw" "_law_do_raw" s_law_do_raw f fd ∧ mg "_law_do_raw" = some (.ref f) ∧ Binds K fd ["disk", "at", "block"] []
  law_do : ∃ (f : Addr) (fd : FuncData), Fun K "_law_do" "_law_do" s_law_do f fd ∧ mg "_law_do" = some (.ref f) ∧ Binds K fd ["disk", "at", "block"] []
  law : ∃ (f : Addr) (fd : FuncData), Fun K "law" "law" s_law f fd ∧ mg "law" = some (.ref f) ∧ Binds K fd ["script"] []
  cDisk : Cls K CDisk
  gDisk : mg "Disk" = some (.ref CDisk)
  nDisk_blocks : NoAttr K CDisk "_blocks"
  nDisk_waiting : NoAttr K CDisk "_waiting"
  nDisk_cuts : NoAttr K CDisk "_cuts"
  nDisk_left : NoAttr K CDisk "_left"
  nDisk_torn : NoAttr K CDisk "_torn"
  xOutOfRange : Out P K mg "OutOfRange" "name" COutOfRange
  xPowerCut : PlainE K mg "PowerCut" CPowerCut
  gKeepError : mg "KeepError" = some (.ref CKeepError)
  ePowerCutPowerCut : PySem.W.exmOne K (.ref CPowerCut) (.ref CPowerCut) = some true
  eOutOfRangePowerCut : PySem.W.exmOne K (.ref COutOfRange) (.ref CPowerCut) = some false
  eOutOfRangeOutOfRange : PySem.W.exmOne K (.ref COutOfRange) (.ref COutOfRange) = some true
  kPowerCutKeepError : PySem.W.kitOne K (.ref CPowerCut) (.ref CKeepError) = some true
  kPowerCutOutOfRange : PySem.W.kitOne K (.ref CPowerCut) (.ref COutOfRange) = some false
  yPowerCut : ExcC K CPowerCut
  len : mg "len" = none
  int : mg "int" = none
  range : mg "range" = none
  list : mg "list" = none
  all : mg "all" = none
  zip : mg "zip" = none
  min : mg "min" = none
  max : mg "max" = none
  isinstance : mg "isinstance" = none
  cBLOCK : ∃ u, mg "BLOCK" = some u ∧ RelV (V.int 32) u
  cBLOCKS_MOST : ∃ u, mg "BLOCKS_MOST" = some u ∧ RelV (V.int 400) u
  c_BLOCKS_LEAST : ∃ u, mg "_BLOCKS_LEAST" = some u ∧ RelV (V.int 8) u
  c_BYTE_MOST : ∃ u, mg "_BYTE_MOST" = some u ∧ RelV (V.int 255) u
  c_SCHEDULE_MOST : ∃ u, mg "_SCHEDULE_MOST" = some u ∧ RelV (V.int 100000) u
section
variable {P : Program} {w : World} {K : PySem.W.Frag} {mg : Str → Option Value} {base : Heap}
/-! ### _law_cell -/
def spCell (K : PySem.W.Frag) : Sp := fun vs H Q _ => ∃ (a : Addr) (ns : List Int) (k : Nat), vs = [.ref a, .int (k : Int)] ∧ SqL K H a (ns.map V.int) ∧ ∀ v : Int, Q (.int v) H
theorem ok_law_cell {CDisk COutOfRange CPowerCut CKeepError : Addr} {f : Addr} {fd : FuncData} (A : All P K mg CDisk COutOfRange CPowerCut CKeepError) (F : Fun K "_law_cell" "_law_cell" s_law_cell f fd) : FnOk P w K mg base CX0 1 f fd ["script", "k"] (spCell K) := by
  refine F.ok sc_law_cell (fun vs H Q E h => ?_) (fun cdv A' outer s H vs Q E hr h => ?_)
  · obtain ⟨a, ns, k, rfl, _⟩ := h
    rfl
  · obtain ⟨a, ns, k, rfl, hS, q⟩ := h
    refine ⟨_, (pss_cons (ps_if (pt_cmpR op_lt (pv 1) (pe_callB call_len_seq (by rfl) A.len PySem.boot_len (pa_cons (pv 0) pa_nil)) (nomark _))
(pss_one (ps_ret (pe_ix ix_list (pv 0) (pv 1) (fun _ _ => rfl))))
pss_nil)
(pss_one (ps_ret pe_int))), ?_⟩
    refine ⟨_, rfl, _, rfl, a, _, rfl, .inl hS, _, _, rfl, rfl, _, rfl, ite2 (fun e => ?_) (fun e => ?_)⟩
    · have lt : k < (ns.map V.int).length := by
        have := of_decide_eq_true e
        omega
      have lt' := lt
      rw [List.length_map] at lt'
      have g : (ns.map V.int)[k]? = some (.int ns[k]) := by
        rw [List.getElem?_map, List.getElem?_eq_getElem lt']
        rfl
      exact ⟨_, rfl, _, rfl, a, _, _, _, rfl, rfl, hS, atI_nat g, q _⟩
    · exact q _

/-! ### _law_digits -/
def spDigits (K : PySem.W.Frag) : Sp := fun vs H Q _ => ∃ (a : Addr) (ns : List Int), vs = [.ref a, .int 0, .int 63] ∧ SqL K H a (ns.map V.int) ∧
  ∀ (p : Addr) (ds : List Int) (H' : Hp), Same H H' → H p = none → H' p = some (.lst (ds.map V.int)) → Q (.ref p) H'
theorem ok_law_digits {CDisk COutOfRange CPowerCut CKeepError : Addr} {f : Addr} {fd : FuncData} (A : All P K mg CDisk COutOfRange CPowerCut CKeepError) (F : Fun K "_law_digits" "_law_digits" s_law_digits f fd) : FnOk P w K mg base CX0 2 f fd ["script", "first", "last"] (spDigits K) := by
  obtain ⟨f_law_cell, fd_law_cell, F_law_cell, g_law_cell, b_law_cell⟩ := A.law_cell
  have G_law_cell := ok_law_cell (P := P) (w := w) (base := base) A F_law_cell
  refine F.ok sc_law_digits (fun vs H Q E h => ?_) (fun cdv A' outer s H vs Q E hr h => ?_)
  · obtain ⟨a, ns, rfl, _⟩ := h
    rfl
  · obtain ⟨a, ns, rfl, hS, q⟩ := h
    refine ⟨_, (pss_cons (ps_set (i := 3) sc_law_digits.nd rfl (.inl rfl) (pe_lst pa_nil))
(pss_cons (ps_for PassesOwn.never rfl (pi_range2 (by rfl) A.range (pa_cons (pv 1) (pa_cons (pv 2) pa_nil))) (pg_name (i := 4) sc_law_digits.nd rfl (.inl rfl))
(pss_cons (ps_set (i := 5) sc_law_digits.nd rfl (.inl rfl) (pe_call G_law_cell (hr.mono (by decide)) (by rfl) g_law_cell F_law_cell.kp b_law_cell .nil pass0 (pa_cons (pv 0) (pa_cons (pv 4) pa_nil))))
(Evl.pss_cut (ps_if (pt_cmpR op_lt (pv 5) pe_int (nomark _))
(pss_one (ps_set (i := 5) sc_law_digits.nd rfl (.inl rfl) (pe_op op_sub pe_int (pe_op op_mul pe_int (pv 5)))))
pss_nil)
(pss_one (ps_if (pt_cmpR op_ge (pv 5) pe_int (nomark _))
(pss_one (ps_for PassesOwn.never rfl (pi_range1 (by rfl) A.range (pa_cons pe_int pa_nil)) (pg_name (i := 6) sc_law_digits.nd rfl (.inl rfl))
(pss_one (ps_if (pt_cmpR op_gt (pv 5) pe_int (nomark _))
(pss_cons (ps_expr (pe_bm PySem.F.plainAttrs_list PySem.F.slot_list_append PySem.F.type_list_append mt_append (pv 3) (pa_cons (pe_op op_mod (pe_callTy call_int1 (by rfl) A.int (by decide +kernel) (pa_cons (pv 5) pa_nil)) pe_int) pa_nil)))
(pss_one (ps_set (i := 5) sc_law_digits.nd rfl (.inl rfl) (pe_op op_fdiv (pv 5) pe_int))))
pss_nil))))
(pss_cons (ps_set (i := 7) sc_law_digits.nd rfl (.inl rfl) (pe_op op_mod (pe_callTy call_int1 (by rfl) A.int (by decide +kernel) (pa_cons (pe_op op_add (pe_op op_add (pe_op op_mul (pv 5) pe_int) (pe_op op_mul (pv 4) pe_int)) pe_int) pa_nil)) pe_int))
(pss_one (ps_for PassesOwn.never rfl (pi_range1 (by rfl) A.range (pa_cons pe_int pa_nil)) (pg_name (i := 6) sc_law_digits.nd rfl (.inl rfl))
(pss_cons (ps_set (i := 7) sc_law_digits.nd rfl (.inl rfl) (pe_op op_mod (pe_callTy call_int1 (by rfl) A.int (by decide +kernel) (pa_cons (pe_op op_add (pe_op op_add (pe_op op_mul (pv 7) pe_int) (pe_op op_mul pe_int (pv 6))) pe_int) pa_nil)) pe_int))
(pss_one (ps_expr (pe_bm PySem.F.plainAttrs_list PySem.F.slot_list_append PySem.F.type_list_append mt_append (pv 3) (pa_cons (pe_op op_mod (pe_callTy call_int1 (by rfl) A.int (by decide +kernel) (pa_cons (pe_op op_fdiv (pv 7) pe_int) pa_nil)) pe_int) pa_nil)))))))))))))
(pss_one (ps_ret (pv 3))))), ?_⟩
    refine ⟨Nat.zero_le _, fun d nd => ?_⟩
    refine ⟨_, rfl, _, rfl, 0, 63, rfl, by decide, ?_⟩
    let St1 : Nat → L2.St → Hp → Prop := fun m σ H' => ∃ (ds : List Int) (v4 c v6 v7 : Option V), σ = [some (.ref a), some (.int 0), some (.int 63), some (.ref d), v4, c, v6, v7] ∧ Same H H' ∧ H' d = some (.lst (ds.map V.int)) ∧ ds.length ≤ m
    refine for_range (lo := 0) (n := 63) (fun i => St1 (60 * i)) ⟨[], none, none, none, none, rfl, same_new (Same.refl H) nd, upd_same, Nat.le_refl _⟩ ?_ ?_
    · rintro i σ H1 hi ⟨ds, v4, c, v6, v7, rfl, s1, hd, hl⟩
      refine ⟨_, rfl, _, rfl, a, ns, i, by rw [Int.zero_add]; rfl, s1.seq hS, fun cv => ?_⟩
      refine ⟨fun σ H2 => H2 = H1 ∧ ∃ cv : Int, σ = [some (.ref a), some (.int 0), some (.int 63), some (.ref d), some (.int (0 + (i : Int))), some (.int cv), v6, v7], ?_, ?_⟩
      · refine ⟨_, rfl, _, _, rfl, rfl, _, rfl, ite2 (fun _ => ?_) (fun _ => ?_)⟩
        · exact ⟨_, rfl, _, _, rfl, rfl, .inl ⟨by decide, by decide⟩, _, _, rfl, rfl, rfl, _, rfl⟩
        · exact ⟨rfl, cv, rfl⟩
      rintro σ H2 ⟨rfl, cv, rfl⟩
      refine ⟨_, rfl, _, _, rfl, rfl, _, rfl, ite2 (fun _ => ?_) (fun _ => ?_)⟩
      · -- the digits of a great number
        refine ⟨60, rfl, by decide, by decide, for_range (lo := 0) (n := 60) (fun j σ H' => ∃ (ds : List Int) (cv : Int) (v6 : Option V), σ = [some (.ref a), some (.int 0), some (.int 63), some (.ref d), some (.int (0 + (i : Int))), some (.int cv), v6, v7] ∧ Same H H' ∧ H' d = some (.lst (ds.map V.int)) ∧ ds.length ≤ 60 * i + j)
          ⟨ds, cv, v6, rfl, s1, hd, hl⟩ ?_ ?_⟩
        · rintro j σ H3 hj ⟨ds, cv, v6, rfl, s2, hd, hl⟩
          refine ⟨_, rfl, _, _, rfl, rfl, _, rfl, ite2 (fun _ => ?_) (fun _ => ?_)⟩
          · refine ⟨_, rfl, .inl ⟨rfl, _, SqL.of hd⟩, _, rfl, .inl ⟨_, rfl, _, _, rfl, rfl, (by show (0 : Int) < 1000; decide), d, _, _, rfl, rfl, hd, lt_size (by rw [List.length_map]; omega), ?_⟩⟩
            refine ⟨_, rfl, _, _, rfl, rfl, ⟨by decide, by decide⟩, ds ++ [cv % 1000], cv / 1000, _, rfl, same_mut s2 nd, ?_, ?_⟩
            · rw [upd_same, List.map_append]
              rfl
            · rw [List.length_append]
              show ds.length + 1 ≤ _
              omega
          · exact ⟨ds, cv, _, rfl, s2, hd, by omega⟩
        · rintro σ H3 ⟨ds, cv, v6, rfl, s2, hd, hl⟩
          exact ⟨ds, _, _, _, _, rfl, s2, hd, by omega⟩
      · refine ⟨_, rfl, _, _, rfl, rfl, .inr ⟨by decide, by decide⟩, _, rfl, _, _, rfl, rfl, .inr ⟨by decide, by decide⟩, _, _, rfl, rfl, _, _, rfl, rfl, .inl ⟨_, rfl, _, _, rfl, rfl, (by show (0 : Int) < 2147483399; decide), ?_⟩⟩
        refine ⟨12, rfl, by decide, by decide, for_range (lo := 0) (n := 12) (fun j σ H' => ∃ (ds : List Int) (sv : Int) (v6 : Option V), σ = [some (.ref a), some (.int 0), some (.int 63), some (.ref d), some (.int (0 + (i : Int))), some (.int cv), v6, some (.int sv)] ∧ Same H H' ∧ H' d = some (.lst (ds.map V.int)) ∧ ds.length ≤ 60 * i + j)
          ⟨ds, _, v6, rfl, s1, hd, hl⟩ ?_ ?_⟩
        · rintro j σ H3 hj ⟨ds, sv, v6, rfl, s2, hd, hl⟩
          refine ⟨_, rfl, _, _, rfl, rfl, .inr ⟨by decide, by decide⟩, _, rfl, _, _, rfl, rfl, .inl ⟨by decide, by decide⟩, _, _, rfl, rfl, _, _, rfl, rfl, .inl ⟨_, rfl, _, _, rfl, rfl, (by show (0 : Int) < 2147483563; decide), ?_⟩⟩
          refine ⟨_, rfl, .inl ⟨rfl, _, SqL.of hd⟩, _, rfl, _, _, rfl, rfl, ⟨by decide, by decide⟩, .inl ⟨_, rfl, _, _, rfl, rfl, (by show (0 : Int) < 1000; decide), d, _, _, rfl, rfl, hd, lt_size (by rw [List.length_map]; omega), ?_⟩⟩
          refine ⟨ds ++ [((sv * 40014 + 5 * (0 + (j : Int)) + 3) % 2147483563 / 1009) % 1000], _, _, rfl, same_mut s2 nd, ?_, ?_⟩
          · rw [upd_same, List.map_append]
            rfl
          · rw [List.length_append]
            show ds.length + 1 ≤ _
            omega
        · rintro σ H3 ⟨ds, sv, v6, rfl, s2, hd, hl⟩
          exact ⟨ds, _, _, _, _, rfl, s2, hd, by omega⟩
    · rintro σ H1 ⟨ds, v4, c, v6, v7, rfl, s1, hd, hl⟩
      exact ⟨_, rfl, q d ds H1 s1 nd hd⟩

/-! ### _law_draw -/
def spDraw : Sp := fun vs H Q _ => ∃ (b dg : Addr) (ds : List Int) (m : Int), vs = [.ref b, .int m] ∧ 0 < m ∧ Bx H b dg ds ∧
  ∀ (r : Int) (H' : Hp), 0 ≤ r → r < m → Fx b H H' → Bx H' b dg ds → Q (.int r) H'
theorem ok_law_draw {CDisk COutOfRange CPowerCut CKeepError : Addr} {f : Addr} {fd : FuncData} (A : All P K mg CDisk COutOfRange CPowerCut CKeepError) (F : Fun K "_law_draw" "_law_draw" s_law_draw f fd) : FnOk P w K mg base CX0 1 f fd ["box", "many"] spDraw := by
  refine F.ok sc_law_draw (fun vs H Q E h => ?_) (fun cdv A' outer s H vs Q E hr h => ?_)
  · obtain ⟨b, dg, ds, m, rfl, _⟩ := h
    rfl
  · obtain ⟨b, dg, ds, m, rfl, hm, ⟨n, hb, hd⟩, q⟩ := h
    have nbd : dg ≠ b := ne_of hd hb (fun z => by
      cases ds with
      | nil => exact nomatch z
      | cons d r => exact nomatch (List.cons.inj (HO.lst.inj z)).1)
    refine ⟨_, (pss_cons (ps_set (i := 2) sc_law_draw.nd rfl (.inl rfl) (pe_ix ix_list (pv 0) pe_int (fun _ _ => rfl)))
(pss_cons (ps_asg (pe_op op_add (pv 2) pe_int) (pg_sub (pv 0) pe_int set_list))
(pss_cons (ps_if (pt_cmpR op_lt (pv 2) (pe_callB call_len_seq (by rfl) A.len PySem.boot_len (pa_cons (pe_ix ix_list (pv 0) pe_int (fun _ _ => rfl)) pa_nil)) (nomark _))
(pss_one (ps_ret (pe_op op_mod (pe_callTy call_int1 (by rfl) A.int (by decide +kernel) (pa_cons (pe_ix ix_list (pe_ix ix_list (pv 0) pe_int (fun _ _ => rfl)) (pv 2) (fun _ _ => rfl)) pa_nil)) (pv 1))))
pss_nil)
(pss_one (ps_ret (pe_op op_mod (pe_callTy call_int1 (by rfl) A.int (by decide +kernel) (pa_cons (pe_op op_add (pe_op op_mul (pv 2) pe_int) pe_int) pa_nil)) (pv 1))))))), ?_⟩
    refine ⟨_, rfl, b, _, 1, _, rfl, rfl, SqL.of hb, atI_nat (j := 1) rfl, ?_⟩
    refine ⟨_, rfl, _, _, rfl, rfl, _, rfl, b, _, 1, 1, rfl, rfl, hb, rfl, ?_⟩
    have hb2 : upd H b (.lst [.ref dg, .int ((n : Int) + 1)]) b = some (.lst [.ref dg, .int ((n : Int) + 1)]) := upd_same
    have hd2 : upd H b (.lst [.ref dg, .int ((n : Int) + 1)]) dg = some (.lst (ds.map V.int)) := by
      rw [upd_ne nbd]
      exact hd
    have fin : ∀ r : Int, 0 ≤ r → r < m → Q (.int r) (upd H b (.lst [.ref dg, .int ((n : Int) + 1)])) := fun r h1 h2 =>
      q r _ h1 h2 (fun c o nc e => by rw [upd_ne nc]; exact e) ⟨n + 1, by rw [hb2]; rfl, hd2⟩
    refine ⟨_, rfl, _, rfl, b, _, 0, _, rfl, rfl, SqL.of hb2, atI_nat (j := 0) rfl, dg, _, rfl, .inl (SqL.of hd2), _, _, rfl, rfl, _, rfl, ite2 (fun e => ?_) (fun e => ?_)⟩
    · have lt : n < ds.length := by
        have := of_decide_eq_true e
        rw [List.length_map] at this
        omega
      have g : (ds.map V.int)[n]? = some (.int ds[n]) := by
        rw [List.getElem?_map, List.getElem?_eq_getElem lt]
        rfl
      refine ⟨_, rfl, b, _, 0, _, rfl, rfl, SqL.of hb2, atI_nat (j := 0) rfl, _, rfl, dg, _, _, _, rfl, rfl, SqL.of hd2, atI_nat g, .inl ⟨_, rfl, _, rfl, _, _, rfl, rfl, hm, ?_⟩⟩
      exact fin _ (Int.emod_nonneg _ (by omega)) (Int.emod_lt_of_pos _ hm)
    · refine ⟨_, rfl, _, _, rfl, rfl, .inr ⟨by decide, by decide⟩, _, _, rfl, rfl, .inl ⟨_, rfl, _, rfl, _, _, rfl, rfl, hm, ?_⟩⟩
      exact fin _ (Int.emod_nonneg _ (by omega)) (Int.emod_lt_of_pos _ hm)

/-- a refusal -/
def Rz (CO : Addr) (z : Str) (H : Hp) (E : XK) : Prop := ∀ (d : Addr) (H' : Hp), Same H H' → H d = none → H' d = some (.xd [("name", .str z)]) → E (.ref CO) (some d) H'
theorem rz_go {CO : Addr} {z : Str} {H0 H : Hp} {E : XK} (h : Rz CO z H0 E) (s : Same H0 H) : ∀ d, H d = none → E (.ref CO) (some d) (upd H d (.xd [("name", .str z)])) := fun d nd =>
  h d _ (same_new s nd) (by
    cases e : H0 d with
    | none => rfl
    | some o => exact absurd ((s _ _ e).symm.trans nd) (fun z => nomatch z)) upd_same
/-! ### _check_torn -/
def spCT (K : PySem.W.Frag) (CO : Addr) : Sp := fun vs H Q E => ∃ (m : Addr) (ks : List Int), vs = [.ref m] ∧ SqL K H m (ks.map V.int) ∧ ks.length ≤ 1000 ∧
  ((∀ k ∈ ks, 0 ≤ k ∧ k ≤ 32) → ∀ H', Same H H' → Q .non H') ∧ (¬ (∀ k ∈ ks, 0 ≤ k ∧ k ≤ 32) → Rz CO "torn" H E)
def okK (k : Int) : Bool := decide (0 ≤ k) && decide (k ≤ 32)
theorem ok_check_torn {CDisk COutOfRange CPowerCut CKeepError : Addr} {f : Addr} {fd : FuncData} (A : All P K mg CDisk COutOfRange CPowerCut CKeepError) (F : Fun K "_check_torn" "_check_torn" s_check_torn f fd) : FnOk P w K mg base (L2.CX P w) 3 f fd ["torn"] (spCT K COutOfRange) := by
  refine F.okX sc_check_torn (fun vs H Q E h => ?_) (fun cdv A' outer s H vs Q E hr h => ?_)
  · obtain ⟨m, ks, rfl, _⟩ := h
    rfl
  · obtain ⟨m, ks, rfl, hS, hl, q1, q2⟩ := h
    refine ⟨_, (pss_one (ps_if (pt_not (pt_val (pe_callB (cr_all rfl) (by rfl) A.all (by decide +kernel) (pa_cons (pe_lc (own := [("many", 1)]) (tt := tYes) rfl sc_check_torn.nd (pi_list (pv 0)) (blkOk_by (N := ["torn", "many"]) (sc := defScope s_check_torn) (by decide +kernel)) (fun _ _ _ _ _ => pg_name (i := 1) sc_check_torn.nd rfl (Or.inl rfl)) (fun _ _ _ _ _ => pts_nil) (fun _ _ _ _ _ => (pe_chain op_le op_le pe_int (pv 1) (pe_cst (by rfl) A.cBLOCK)))) pa_nil))))
(pss_one (ps_out rfl A.xOutOfRange (hr.mono (by decide)) (takes_of rfl rfl rfl rfl) (by decide) (by rfl)))
pss_nil)), ?_⟩
    refine ⟨_, rfl, m, rfl, ⟨_, hS⟩, fun D nD => ?_⟩
    refine lc_list (K := K) (a := m) (xs := ks.map V.int) (fun i H' => H' D = some (.lst ((ks.take i).map fun k => V.bl (okK k))) ∧ Same H H') ⟨upd_same, same_new (Same.refl H) nD⟩ (fun i H' _ h => h.2.seq hS) ?_ ?_
    · rintro i v H1 hv ⟨hD, s1⟩
      obtain ⟨k, hk, rfl⟩ := map_at hv
      refine ⟨rfl, _, rfl, _, _, rfl, rfl, _, rfl, ?_⟩
      have fin : ∀ b, b = okK k → ∃ acc, H1 D = some (.lst acc) ∧ acc.length < sizeLine ∧ (upd H1 D (.lst (acc ++ [V.bl b]))) D = some (.lst ((ks.take (i + 1)).map fun k => V.bl (okK k))) ∧ Same H (upd H1 D (.lst (acc ++ [V.bl b]))) := by
        rintro b rfl
        refine ⟨_, hD, ?_, ?_, same_mut s1 nD⟩
        · rw [List.length_map, List.length_take, sizeLine_eq]
          omega
        · rw [upd_same, List.take_succ, hk, List.map_append]
          rfl
      refine ite2 (fun e => ?_) (fun e => ?_)
      · refine ⟨_, _, rfl, rfl, fin _ ?_⟩
        unfold okK
        rw [e, Bool.true_and]
      · refine fin _ ?_
        unfold okK
        cases d : decide (0 ≤ k) with
        | true => exact absurd d e
        | false => rfl
    · rintro H1 ⟨hD, s1⟩
      rw [List.length_map, List.take_length] at hD
      have hD' : H1 D = some (.lst ((ks.map okK).map V.bl)) := by
        rw [hD, List.map_map]
        rfl
      have key : (ks.map okK).all id = true ↔ ∀ k ∈ ks, 0 ≤ k ∧ k ≤ 32 := by
        rw [List.all_eq_true]
        constructor
        · intro h k hk
          have := h (okK k) (List.mem_map.mpr ⟨k, hk, rfl⟩)
          unfold okK at this
          rw [id, Bool.and_eq_true] at this
          exact ⟨of_decide_eq_true this.1, of_decide_eq_true this.2⟩
        · intro h b hb
          obtain ⟨k, hk, rfl⟩ := List.mem_map.mp hb
          unfold okK
          rw [id, decide_eq_true (h k hk).1, decide_eq_true (h k hk).2]
          rfl
      refine ⟨D, _, rfl, SqL.of hD', _, rfl, ?_⟩
      cases e : (ks.map okK).all id with
      | true => exact iteF (q1 (key.mp e) _ s1)
      | false => exact iteT (rz_go (q2 fun h => by rw [key.mpr h] at e; cases e) s1)
/-! ### _check_at -/
def spCA (C CO : Addr) : Sp := fun vs H Q E => ∃ (L : Addr → Prop) (p : Addr) (as : List Addr) (x : Dk.St) (i : Int), vs = [.ref p, .int i] ∧ At C H L p as x ∧
  ((0 ≤ i ∧ i < (x.blocks.length : Int)) → Q .non H) ∧ (¬ (0 ≤ i ∧ i < (x.blocks.length : Int)) → Rz CO "at" H E)
theorem ok_Disk__check_at {CDisk COutOfRange CPowerCut CKeepError : Addr} {f : Addr} {fd : FuncData} (A : All P K mg CDisk COutOfRange CPowerCut CKeepError) (F : Fun K "_check_at" "Disk._check_at" s_Disk__check_at f fd) : FnOk P w K mg base (L2.CX P w) 3 f fd ["self", "at"] (spCA CDisk COutOfRange) := by
  refine F.okX sc_Disk__check_at (fun vs H Q E h => ?_) (fun cdv A' outer s H vs Q E hr h => ?_)
  · obtain ⟨L, p, as, x, i, rfl, _⟩ := h
    rfl
  · obtain ⟨L, p, as, x, i, rfl, ⟨dx, b, w, t, tq, B⟩, q1, q2⟩ := h
    refine ⟨_, (pss_one (ps_if (pt_not (pt_chain op_le op_lt pe_int (pv 1) (pe_callB call_len_seq (by rfl) A.len PySem.boot_len (pa_cons (pe_fld (pv 0) rfl) pa_nil))))
(pss_one (ps_out rfl A.xOutOfRange (hr.mono (by decide)) (takes_of rfl rfl rfl rfl) (by decide) (by rfl)))
pss_nil)), ?_⟩
    have lb : (as.map V.ref).length = x.blocks.length := by rw [List.length_map, B.len]
    refine ⟨_, rfl, _, _, rfl, rfl, _, rfl, ite2 (fun e => ?_) (fun e => ?_)⟩
    · refine ⟨_, rfl, p, CDisk, dx, _, _, rfl, B.ins, A.cDisk, A.nDisk_blocks, df_b .., b, _, rfl, .inl (SqL.of B.hb), _, _, rfl, rfl, _, rfl, ite2 (fun e2 => ?_) (fun e2 => ?_)⟩
      · have e2' : (!decide (i < ((as.map V.ref).length : Int))) = true := e2
        rw [lb] at e2'
        refine rz_go (q2 fun z => ?_) (Same.refl H)
        rw [decide_eq_true z.2] at e2'
        cases e2'
      · have e2' : ¬ (!decide (i < ((as.map V.ref).length : Int))) = true := e2
        rw [lb] at e2'
        refine q1 ⟨of_decide_eq_true e, ?_⟩
        simpa using e2'
    · refine ⟨_, rfl, iteT (rz_go (q2 fun z => e (decide_eq_true z.1)) (Same.refl H))⟩
end
end K41
set_option Elab.async false
set_option linter.all false
set_option maxRecDepth 100000
set_option maxHeartbeats 4000000
/-! K41b: the writes of a disk. -/
namespace K41
open PySem PySem.Spec PyProof.Rows L2 Gd Com Bk Nw Xs Dk
section
variable {P : Program} {w : World} {K : PySem.W.Frag} {mg : Str → Option Value} {base : Heap}
/-! ### _store -/
def spStore (K : PySem.W.Frag) (C : Addr) : Sp := fun vs H Q _ => ∃ (L : Addr → Prop) (p m : Addr) (as : List Addr) (x : Dk.St) (ks : List Nat), vs = [.ref p, .ref m] ∧ At C H L p as x ∧ SqL K H m (ks.map fun k : Nat => V.int (k : Int)) ∧ m ∉ as ∧ (∀ k ∈ ks, k ≤ 32) ∧ ks.length ≤ 2000 ∧
  ∀ (H' : Hp) (L' : Addr → Prop), Stp H H' L L' → At C H' L' p as (x.store ks) → Q .non H'
theorem ok_Disk__store {CDisk COutOfRange CPowerCut CKeepError : Addr} {f : Addr} {fd : FuncData} (A : All P K mg CDisk COutOfRange CPowerCut CKeepError) (F : Fun K "_store" "Disk._store" s_Disk__store f fd) : FnOk P w K mg base CX0 1 f fd ["self", "many"] (spStore K CDisk) := by
  refine F.ok sc_Disk__store (fun vs H Q E h => ?_) (fun cdv A' outer s H vs Q E hr h => ?_)
  · obtain ⟨L, p, m, as, x, ks, rfl, _⟩ := h
    rfl
  · obtain ⟨L, p, m, as, x, ks, rfl, ⟨dx, b, w, t, tq, B⟩, hS, ma, hk, hkl, q⟩ := h
    refine ⟨_, (pss_cons (ps_for PassesOwn.never rfl (pi_zip (by rfl) A.zip (pa_cons (pe_fld (pv 0) rfl) (pa_cons (pv 1) pa_nil))) (pg_tup rfl (pgs_cons (pg_tup rfl (pgs_cons (pg_name (i := 2) sc_Disk__store.nd rfl (.inl rfl)) (pgs_cons (pg_name (i := 3) sc_Disk__store.nd rfl (.inl rfl)) pgs_nil))) (pgs_cons (pg_name (i := 4) sc_Disk__store.nd rfl (.inl rfl)) pgs_nil)))
(pss_one (ps_asg (pe_slice sl_list (pv 3) po_none (po_some (pv 4))) (pg_head (pe_ix ix_list (pe_fld (pv 0) rfl) (pv 2) (fun _ _ => rfl)) (pv 4)))))
(pss_one (ps_fld (pv 0) (pe_lst pa_nil) rfl))), ?_⟩
    have wl := B.wlen
    have fit := B.fit
    have pa : p ∉ as := fun z => by
      obtain ⟨i, hi⟩ := List.mem_iff_getElem?.mp z
      have li : i < x.blocks.length := by
        rw [← B.len]
        exact (List.getElem?_eq_some_iff.mp hi).1
      obtain ⟨a, e1, e2⟩ := rows_get B.rows li
      rw [hi] at e1
      cases e1
      rw [B.ins] at e2
      cases e2
    refine ⟨_, rfl, p, CDisk, dx, _, _, rfl, B.ins, A.cDisk, A.nDisk_waiting, df_w .., _, rfl, w, m, _, _, rfl, SqL.of B.hw, hS, ?_⟩
    have hn : min x.wait.length ks.length = min (tq.map fun e => V.ref e.1).length (ks.map fun k : Nat => V.int (k : Int)).length := by
      rw [List.length_map, List.length_map, wl]
    refine for_it (walk_zip (K := K) (a := w) (b := m) (xs := tq.map fun e => V.ref e.1) (ys := ks.map fun k : Nat => V.int (k : Int)) (n := min x.wait.length ks.length) hn)
      (fun i σ H' => ∃ (v2 v3 v4 : Option V), σ = [some (.ref p), some (.ref m), v2, v3, v4] ∧ Paired (fun r c => H' c = some (.lst (r.map V.int))) (storeB x.blocks (x.wait.take i) (ks.take i)) as ∧ Fas as H H')
      ⟨none, none, none, rfl, by simpa [storeB] using B.rows, fun _ _ _ h => h⟩ (fun i σ H' _ h => ?_) ?_ ?_
    · obtain ⟨_, _, _, _, _, f⟩ := h
      refine ⟨SqL.of (f _ _ B.wa B.hw), ?_⟩
      rcases hS with hS | hS
      · exact .inl (hS.imp (fun h => f _ _ ma h) fun ⟨o, h⟩ => ⟨o, f _ _ ma h⟩)
      · exact .inr hS
    · rintro i v σ H1 H1' hi ⟨v2, v3, v4, rfl, rows, fas⟩ ⟨T, y1, y2, rfl, nT, rfl, e1, e2⟩
      have hi1 : i < x.wait.length := by omega
      have hi2 : i < ks.length := by omega
      obtain ⟨g, hg, g1, g2, g3, g4⟩ := row_at B.wt hi1
      have ey1 : y1 = V.ref g.1 := by
        have : (tq.map fun e => V.ref e.1)[i]? = some (V.ref g.1) := by rw [List.getElem?_map, hg]; rfl
        exact Option.some.inj ((show (tq.map fun e => V.ref e.1)[i]? = some y1 from e1).symm.trans this)
      have ey2 : y2 = V.int (ks[i] : Int) := by
        have : (ks.map fun k : Nat => V.int (k : Int))[i]? = some (V.int (ks[i] : Int)) := by rw [List.getElem?_map, List.getElem?_eq_getElem hi2]; rfl
        exact Option.some.inj ((show (ks.map fun k : Nat => V.int (k : Int))[i]? = some y2 from e2).symm.trans this)
      subst ey1 ey2
      have hmem : x.wait[i] ∈ x.wait := List.getElem_mem hi1
      have le1 := (fit.wait _ hmem).1
      have le2 := (fit.wait _ hmem).2
      have lk := hk _ (List.getElem_mem hi2)
      have sT : Same H1 (upd H1 T (.tup [.ref g.1, .int (ks[i] : Int)])) := same_new (Same.refl H1) nT
      have tup_as : ∀ {c : Addr} {vs : List V}, H c = some (.tup vs) → c ∉ as := fun {c vs} e z => by
        obtain ⟨j, hj⟩ := List.mem_iff_getElem?.mp z
        have lj : j < x.blocks.length := by
          rw [← B.len]
          exact (List.getElem?_eq_some_iff.mp hj).1
        obtain ⟨a, e1, e2⟩ := rows_get B.rows lj
        rw [hj] at e1
        cases e1
        rw [e] at e2
        cases e2
      have hg1 := sT _ _ (fas _ _ (tup_as g1) g1)
      have hg2 := sT _ _ (fas _ _ g3 g2)
      have ins1 := sT _ _ (fas _ _ pa B.ins)
      have hb1 := sT _ _ (fas _ _ B.ba B.hb)
      refine ⟨T, _, rfl, SqT.of upd_same, rfl, _, _, rfl, ⟨g.1, _, rfl, SqT.of hg1, rfl, _, _, rfl, _, _, rfl, rfl, _, _, rfl, rfl, ?_⟩⟩
      generalize hH2 : upd H1 T (.tup [.ref g.1, .int (ks[i] : Int)]) = H2 at sT hg1 hg2 ins1 hb1 ⊢
      -- block[:stored]
      refine ⟨_, rfl, _, rfl, _, rfl, g.2, _, rfl, SqL.of hg2, fun y ny => ?_⟩
      have sy : Same H2 (upd H2 y (.lst (cutV (x.wait[i].2.map V.int) none (some (ks[i] : Int))))) := same_new (Same.refl H2) ny
      have ey : cutV (x.wait[i].2.map V.int) none (some (ks[i] : Int)) = (x.wait[i].2.take ks[i]).map V.int := by
        rw [cut_take _ (by rw [List.length_map]; omega), List.map_take]
      have hy : (upd H2 y (.lst (cutV (x.wait[i].2.map V.int) none (some (ks[i] : Int))))) y = some (.lst ((x.wait[i].2.take ks[i]).map V.int)) := by rw [upd_same, ey]
      generalize upd H2 y (.lst (cutV (x.wait[i].2.map V.int) none (some (ks[i] : Int)))) = H3 at sy hy ⊢
      have rows3 : Paired (fun r c => H3 c = some (.lst (r.map V.int))) (storeB x.blocks (x.wait.take i) (ks.take i)) as := Paired.mapP rows fun _ _ e => sy _ _ (sT _ _ e)
      obtain ⟨a, ha, hrow⟩ := rows_get rows3 (i := x.wait[i].1) (by rw [storeB_len]; exact le1)
      have hat : atI (as.map V.ref) (x.wait[i].1 : Int) = some (.ref a) := atI_nat (by rw [List.getElem?_map, ha]; rfl)
      have rl : ((storeB x.blocks (x.wait.take i) (ks.take i)).getD x.wait[i].1 []).length = 32 := by
        have lt : x.wait[i].1 < (storeB x.blocks (x.wait.take i) (ks.take i)).length := by rw [storeB_len]; exact le1
        rw [List.getD_eq_getElem?_getD, List.getElem?_eq_getElem lt]
        exact storeB_rows _ _ _ fit.rows (fun e he => fit.wait e (List.mem_of_mem_take he)) (fun k hk' => hk k (List.mem_of_mem_take hk')) _ (List.getElem_mem lt)
      have nay : a ≠ y := fun z => by
        subst z
        have := rows_get (Paired.mapP rows fun _ _ e => sT _ _ e) (i := x.wait[i].1) (by rw [storeB_len]; exact le1)
        obtain ⟨a', h1, h2⟩ := this
        rw [ha] at h1
        cases h1
        rw [ny] at h2
        cases h2
      refine ⟨_, rfl, p, CDisk, dx, _, _, rfl, sy _ _ ins1, A.cDisk, A.nDisk_blocks, df_b .., _, rfl, b, _, _, _, rfl, rfl, SqL.of (sy _ _ hb1), hat, _, rfl, _, rfl, a, y, _, _, ks[i], rfl, rfl, rfl, hrow, hy, nay, by rw [List.length_map, rl]; exact lk, ?_, ?_⟩
      · rw [List.length_map, List.length_map, List.length_take, rl, sizeLine_eq]
        omega
      refine ⟨_, _, _, rfl, ?_, fun c o nc e => ?_⟩
      · have st := storeB_take i x.wait ks x.blocks (List.getElem?_eq_getElem hi1) (List.getElem?_eq_getElem hi2)
        rw [st]
        exact rows_set (by rw [List.map_append, List.map_drop]) rows3 B.nd ha
      · have nca : c ≠ a := fun z => nc (z ▸ List.mem_of_getElem? ha)
        rw [upd_ne nca]
        exact sy _ _ (sT _ _ (fas _ _ nc e))
    · rintro σ H1 ⟨v2, v3, v4, rfl, rows, fas⟩
      rw [storeB_min] at rows
      refine ⟨Nat.zero_le _, fun w' nw => ?_⟩
      have sw : Same H1 (upd H1 w' (.lst [])) := same_new (Same.refl H1) nw
      have npw : p ≠ w' := ne_of_none (fas _ _ pa B.ins) nw
      refine ⟨_, rfl, p, CDisk, dx, _, rfl, sw _ _ (fas _ _ pa B.ins), A.cDisk, A.nDisk_waiting, df_len .., ?_⟩
      rw [put_w]
      have old : ∀ a o, H a = some o → a ∉ as → a ≠ p → upd (upd H1 w' (.lst [])) p (.ins CDisk dx (df b w' (x.cuts : Int) (leftV x.left) t)) a = some o := fun a o e n1 n2 => by
        rw [upd_ne n2]
        exact sw _ _ (fas _ _ n1 e)
      have nH : H w' = none := by
        cases e : H w' with
        | none => rfl
        | some o =>
          by_cases z : w' ∈ as
          · obtain ⟨i, hi⟩ := List.mem_iff_getElem?.mp z
            have li : i < (storeB x.blocks x.wait ks).length := by
              rw [storeB_len, ← B.len]
              exact (List.getElem?_eq_some_iff.mp hi).1
            obtain ⟨a, e1, e2⟩ := rows_get rows li
            rw [hi] at e1
            cases e1
            rw [nw] at e2
            cases e2
          · exact absurd ((fas _ _ z e).symm.trans nw) (fun z => nomatch z)
      have nLw : ¬ L w' := fun z => B.reg _ z nH
      have nas : w' ∉ as := fun z => nLw (B.la _ z)
      have nbp : b ≠ p := fun z => by
        have := B.hb
        rw [z, B.ins] at this
        cases this
      have ntp : t ≠ p := fun z => by
        have := B.ht
        rw [z, B.ins] at this
        cases this
      refine q _ (fun a => L a ∨ a = w') ⟨fun a o nl e => ?_, fun a l => .inl l, fun a l => l.imp id fun (z : a = w') => (by rw [z]; exact nH)⟩ ⟨dx, b, w', t, [], ?_⟩
      · exact old a o e (fun z => nl (B.la _ z)) (fun z => nl (z ▸ B.lp))
      · refine ⟨upd_same, old _ _ B.hb B.ba nbp, ?_, B.nd, ?_, .nil, old _ _ B.ht B.ta ntp, B.ta, nas, B.ba, (fun z : b = w' => nLw (by rw [← z]; exact B.lb)), (fun z : w' = t => nLw (by rw [z]; exact B.lt)), ?_, .inl B.lp, .inl B.lb, .inr rfl, .inl B.lt, fun a ha => .inl (B.la a ha), fun _ h => (nomatch h), fit.store hk⟩
        · refine paired_all rows fun r a ha e => ?_
          rw [upd_ne (fun z : a = p => pa (by rw [← z]; exact ha)), upd_ne (fun z : a = w' => nas (by rw [← z]; exact ha))]
          exact e
        · rw [upd_ne npw.symm]
          exact upd_same
        · rintro a (l | rfl) z
          · by_cases h1 : a = p
            · rw [h1, upd_same] at z
              cases z
            · rw [upd_ne h1] at z
              by_cases h2 : a ∈ as
              · obtain ⟨i, hi⟩ := List.mem_iff_getElem?.mp h2
                have li : i < (storeB x.blocks x.wait ks).length := by
                  rw [storeB_len, ← B.len]
                  exact (List.getElem?_eq_some_iff.mp hi).1
                obtain ⟨a', e1, e2⟩ := rows_get rows li
                rw [hi] at e1
                cases e1
                rw [sw _ _ e2] at z
                cases z
              · cases e : H a with
                | none => exact B.reg a l e
                | some o =>
                  rw [sw _ _ (fas _ _ h2 e)] at z
                  cases z
          · rw [upd_ne npw.symm, upd_same] at z
            cases z
end
end K41
set_option Elab.async false
set_option linter.all false
set_option maxRecDepth 100000
set_option maxHeartbeats 4000000
/-! K41c: cuts. -/
namespace K41
open PySem PySem.Spec PyProof.Rows L2 Gd Com Bk Nw Xs Dk
section
variable {P : Program} {w : World} {K : PySem.W.Frag} {mg : Str → Option Value} {base : Heap}
/-! ### _cut -/
def spCut (K : PySem.W.Frag) (C : Addr) : Sp := fun vs H Q _ => ∃ (L : Addr → Prop) (p m : Addr) (as : List Addr) (x : Dk.St) (ks : List Nat), vs = [.ref p, .ref m] ∧ At C H L p as x ∧ SqL K H m (ks.map fun k : Nat => V.int (k : Int)) ∧ m ∉ as ∧ (∀ k ∈ ks, k ≤ 32) ∧ ks.length ≤ 2000 ∧
  ∀ (H' : Hp) (L' : Addr → Prop), Stp H H' L L' → At C H' L' p as (x.cut ks) → Q .non H'
/-- a field of the disk is stored -/
theorem AtB.fld {C p : Addr} {H : Hp} {L : Addr → Prop} {as : List Addr} {x y : Dk.St} {dx b w t : Addr} {tq : List (Addr × Addr)} (B : AtB C H L p as x dx b w t tq) (e1 : y.blocks = x.blocks) (e2 : y.wait = x.wait) (e3 : y.torn = x.torn) {fs : List (Str × V)} (ef : fs = df b w (y.cuts : Int) (leftV y.left) t) :
    AtB C (upd H p (.ins C dx fs)) L p as y dx b w t tq := by
  have ne : ∀ {a : Addr} {o : HO}, H a = some o → (∀ fs, o ≠ .ins C dx fs) → a ≠ p := fun {a o} h n z => by
    rw [z, B.ins] at h
    exact n _ (Option.some.inj h).symm
  refine ⟨by rw [upd_same, ef], ?_, ?_, B.nd, ?_, ?_, ?_, B.ta, B.wa, B.ba, B.bw, B.wn, ?_, B.lp, B.lb, B.lw, B.lt, B.la, B.lg, ?_⟩
  · rw [upd_ne (ne B.hb fun _ z => by cases z)]
    exact B.hb
  · rw [e1]
    exact Paired.mapP B.rows fun r a h => by rw [upd_ne (ne h fun _ z => by cases z)]; exact h
  · rw [upd_ne (ne B.hw fun _ z => by cases z)]
    exact B.hw
  · rw [e2]
    exact Paired.mapP B.wt fun e g h => ⟨by rw [upd_ne (ne h.1 fun _ z => by cases z)]; exact h.1, by rw [upd_ne (ne h.2.1 fun _ z => by cases z)]; exact h.2.1, h.2.2⟩
  · rw [upd_ne (ne B.ht fun _ z => by cases z), e3]
    exact B.ht
  · intro a l z
    by_cases h : a = p
    · rw [h, upd_same] at z
      cases z
    · rw [upd_ne h] at z
      exact B.reg a l z
  · have f := B.fit
    exact ⟨e1 ▸ f.n1, e1 ▸ f.n2, e1 ▸ f.rows, by rw [e1, e2]; exact f.wait, e2 ▸ f.few, e3 ▸ f.torn⟩
theorem AtB.stp {C p : Addr} {H : Hp} {L : Addr → Prop} {as : List Addr} {x : Dk.St} {dx b w t : Addr} {tq : List (Addr × Addr)} (B : AtB C H L p as x dx b w t tq) {o : HO} : Stp H (upd H p o) L L :=
  ⟨fun a u n e => by rw [upd_ne (fun z : a = p => n (by rw [z]; exact B.lp))]; exact e, fun _ h => h, fun _ h => .inl h⟩
theorem meth_no {b w t : Addr} {c : Int} {l : V} {m : Str} (h : m ∈ (["_check_at", "_count_down", "_cut", "_store", "read", "write", "flush", "size", "pending_count", "cut_count", "cut_power", "schedule_cut"] : List Str)) : (df b w c l t).lookup m = none := by
  refine df_no _ _ _ _ _ ?_
  have : ∀ m ∈ (["_check_at", "_count_down", "_cut", "_store", "read", "write", "flush", "size", "pending_count", "cut_count", "cut_power", "schedule_cut"] : List Str), m ∉ (["_blocks", "_waiting", "_cuts", "_left", "_torn"] : List Str) := by decide +kernel
  exact this m h
theorem ok_Disk__cut {CDisk COutOfRange CPowerCut CKeepError : Addr} {f : Addr} {fd : FuncData} (A : All P K mg CDisk COutOfRange CPowerCut CKeepError) (F : Fun K "_cut" "Disk._cut" s_Disk__cut f fd) : FnOk P w K mg base CX0 2 f fd ["self", "torn"] (spCut K CDisk) := by
  obtain ⟨f_Disk__store, fd_Disk__store, F_Disk__store, m_Disk__store, b_Disk__store⟩ := A.Disk__store
  have G_Disk__store := ok_Disk__store (P := P) (w := w) (base := base) A F_Disk__store
  refine F.ok sc_Disk__cut (fun vs H Q E h => ?_) (fun cdv A' outer s H vs Q E hr h => ?_)
  · obtain ⟨L, p, m, as, x, ks, rfl, _⟩ := h
    rfl
  · obtain ⟨L, p, m, as, x, ks, rfl, AT, hS, ma, hk, hkl, q⟩ := h
    refine ⟨_, (pss_cons (ps_expr (pe_meth (pv 0) A.cDisk m_Disk__store G_Disk__store (hr.mono (by decide)) b_Disk__store .nil pass0 (pa_cons (pv 1) pa_nil)))
(pss_cons (ps_fldaug (pv 0) pe_int in_add)
(pss_one (ps_fld (pv 0) pe_non rfl)))), ?_⟩
    obtain ⟨dx, b, w, t, tq, B⟩ := id AT
    refine ⟨_, rfl, p, dx, _, rfl, B.ins, meth_no (by decide +kernel), _, rfl, L, p, m, as, x, ks, rfl, AT, hS, ma, hk, hkl, fun H1 L1 s1 ⟨dx1, b1, w1, t1, tq1, B1⟩ => ?_⟩
    refine ⟨_, rfl, p, CDisk, dx1, _, _, rfl, B1.ins, A.cDisk, A.nDisk_cuts, df_c .., _, _, rfl, rfl, _, _, B1.ins, df_len .., ?_⟩
    rw [put_c]
    have B2 := AtB.fld (y := { x.store ks with cuts := x.cuts + 1 }) (fs := df b1 w1 ((x.store ks).cuts + 1 : Int) (leftV (x.store ks).left) t1) B1 rfl rfl rfl rfl
    have s2 := AtB.stp B1 (o := .ins CDisk dx1 (df b1 w1 ((x.store ks).cuts + 1 : Int) (leftV (x.store ks).left) t1))
    refine ⟨_, rfl, p, CDisk, dx1, _, rfl, B2.ins, A.cDisk, A.nDisk_left, df_len .., ?_⟩
    rw [put_l]
    have B3 := AtB.fld (y := x.cut ks) (fs := df b1 w1 ((x.store ks).cuts + 1 : Int) .non t1) B2 rfl rfl rfl rfl
    exact q _ _ ((s1.trans s2).trans (AtB.stp B2)) ⟨dx1, b1, w1, t1, tq1, B3⟩
/-! ### _count_down -/
def St.down (x : Dk.St) : Dk.St := match x.left with
  | none => x
  | some n => { x with left := some (n - 1) }
def spDown (K : PySem.W.Frag) (C CP : Addr) : Sp := fun vs H Q E => ∃ (L : Addr → Prop) (p : Addr) (as : List Addr) (x : Dk.St), vs = [.ref p] ∧ At C H L p as x ∧ x.torn.length ≤ 2000 ∧
  (x.left ≠ some 0 → ∀ (H' : Hp), Stp H H' L L → At C H' L p as (St.down x) → Q .non H') ∧ (x.left = some 0 → ∀ (H' : Hp) (L' : Addr → Prop), Stp H H' L L' → At C H' L' p as (x.cut x.torn) → E (.ref CP) none H')
theorem ok_Disk__count_down {CDisk COutOfRange CPowerCut CKeepError : Addr} {f : Addr} {fd : FuncData} (A : All P K mg CDisk COutOfRange CPowerCut CKeepError) (F : Fun K "_count_down" "Disk._count_down" s_Disk__count_down f fd) : FnOk P w K mg base (L2.CX P w) 3 f fd ["self"] (spDown K CDisk CPowerCut) := by
  obtain ⟨f_Disk__cut, fd_Disk__cut, F_Disk__cut, m_Disk__cut, b_Disk__cut⟩ := A.Disk__cut
  have G_Disk__cut := ok_Disk__cut (P := P) (w := w) (base := base) A F_Disk__cut
  refine F.okX sc_Disk__count_down (fun vs H Q E h => ?_) (fun cdv A' outer s H vs Q E hr h => ?_)
  · obtain ⟨L, p, as, x, rfl, _⟩ := h
    rfl
  · obtain ⟨L, p, as, x, rfl, AT, tl, q1, q2⟩ := h
    refine ⟨_, (pss_cons (ps_if (pt_cmp (pc_isN (pe_fld (pv 0) rfl)))
(pss_one ps_retN)
pss_nil)
(pss_cons (ps_if (pt_cmpR op_eq (pe_fld (pv 0) rfl) pe_int (nomark _))
(pss_cons (ps_expr (pe_meth (pv 0) A.cDisk m_Disk__cut G_Disk__cut (hr.mono (by decide)) b_Disk__cut .nil pass0 (pa_cons (pe_fld (pv 0) rfl) pa_nil)))
(pss_one (ps_raise rfl (takes_of rfl rfl rfl rfl) (pmk_own PySem.F.excBase_ValueError A.xPowerCut.x A.xPowerCut.g A.xPowerCut.k (raises_own A.xPowerCut.b A.xPowerCut.t) (by exact rfl)))))
pss_nil)
(pss_one (ps_fldaug (pv 0) pe_int in_sub)))), ?_⟩
    obtain ⟨dx, b, w, t, tq, B⟩ := id AT
    refine ⟨_, rfl, p, CDisk, dx, _, _, rfl, B.ins, A.cDisk, A.nDisk_left, df_l .., _, rfl, ?_⟩
    cases el : x.left with
    | none =>
      have e1 : St.down x = x := by unfold St.down; rw [el]
      exact iteT (q1 (by rw [el]; exact fun z => nomatch z) H (Stp.refl _ _) (by rw [e1]; exact AT))
    | some n =>
      refine iteF ?_
      refine ⟨_, rfl, p, CDisk, dx, _, _, rfl, B.ins, A.cDisk, A.nDisk_left, df_l .., ?_⟩
      rw [el]
      refine ⟨rfl, _, rfl, ite2 (fun e => ?_) (fun e => ?_)⟩
      · have en : n = 0 := by
          have := V.int.inj (of_decide_eq_true e)
          omega
        subst en
        refine ⟨_, rfl, p, dx, _, rfl, B.ins, meth_no (by decide +kernel), _, rfl, p, CDisk, dx, _, _, rfl, B.ins, A.cDisk, A.nDisk_torn, df_t .., L, p, t, as, x, x.torn, rfl, AT, SqL.of B.ht, B.ta, B.fit.torn, tl, fun H1 L1 s1 A1 => ?_⟩
        exact q2 el H1 L1 s1 A1
      · have en : n ≠ 0 := fun z => e (decide_eq_true (by rw [z]; rfl))
        refine ⟨_, rfl, p, CDisk, dx, _, _, rfl, B.ins, A.cDisk, A.nDisk_left, df_l .., ?_⟩
        rw [el]
        refine ⟨_, _, rfl, rfl, _, _, B.ins, df_len .., ?_⟩
        rw [put_l]
        have e1 : St.down x = { x with left := some (n - 1) } := by unfold St.down; rw [el]
        refine q1 (by rw [el]; exact fun z => en (Option.some.inj z)) _ (AtB.stp B) ⟨dx, b, w, t, tq, ?_⟩
        rw [e1]
        refine AtB.fld (y := { x with left := some (n - 1) }) (fs := df b w (x.cuts : Int) (.int ((n : Int) - 1)) t) B rfl rfl rfl ?_
        show df b w _ (.int ((n : Int) - 1)) t = df b w _ (.int ((n - 1 : Nat) : Int)) t
        rw [show ((n - 1 : Nat) : Int) = (n : Int) - 1 by omega]
end
end K41
set_option Elab.async false
set_option linter.all false
set_option maxRecDepth 100000
set_option maxHeartbeats 4000000
/-! K41d: what a disk tells. -/
namespace K41
open PySem PySem.Spec PyProof.Rows L2 Gd Com Bk Nw Xs Dk
section
variable {P : Program} {w : World} {K : PySem.W.Frag} {mg : Str → Option Value} {base : Heap}
/-! ### what is told -/
def spNum (C : Addr) (g : Dk.St → Nat) : Sp := fun vs H Q _ => ∃ (L : Addr → Prop) (p : Addr) (as : List Addr) (x : Dk.St), vs = [.ref p] ∧ At C H L p as x ∧ Q (.int (g x : Int)) H
theorem ok_Disk_size {CDisk COutOfRange CPowerCut CKeepError : Addr} {f : Addr} {fd : FuncData} (A : All P K mg CDisk COutOfRange CPowerCut CKeepError) (F : Fun K "size" "Disk.size" s_Disk_size f fd) : FnOk P w K mg base CX0 1 f fd ["self"] (spNum CDisk fun x => x.blocks.length) := by
  refine F.ok sc_Disk_size (fun vs H Q E h => ?_) (fun cdv A' outer s H vs Q E hr h => ?_)
  · obtain ⟨L, p, as, x, rfl, _⟩ := h
    rfl
  · obtain ⟨L, p, as, x, rfl, ⟨dx, b, w, t, tq, B⟩, q⟩ := h
    refine ⟨_, (pss_one (ps_ret (pe_callB call_len_seq (by rfl) A.len PySem.boot_len (pa_cons (pe_fld (pv 0) rfl) pa_nil)))), ?_⟩
    refine ⟨_, rfl, p, CDisk, dx, _, _, rfl, B.ins, A.cDisk, A.nDisk_blocks, df_b .., b, _, rfl, .inl (SqL.of B.hb), ?_⟩
    rw [List.length_map, B.len]
    exact q
theorem ok_Disk_pending_count {CDisk COutOfRange CPowerCut CKeepError : Addr} {f : Addr} {fd : FuncData} (A : All P K mg CDisk COutOfRange CPowerCut CKeepError) (F : Fun K "pending_count" "Disk.pending_count" s_Disk_pending_count f fd) : FnOk P w K mg base CX0 1 f fd ["self"] (spNum CDisk fun x => x.wait.length) := by
  refine F.ok sc_Disk_pending_count (fun vs H Q E h => ?_) (fun cdv A' outer s H vs Q E hr h => ?_)
  · obtain ⟨L, p, as, x, rfl, _⟩ := h
    rfl
  · obtain ⟨L, p, as, x, rfl, ⟨dx, b, w, t, tq, B⟩, q⟩ := h
    refine ⟨_, (pss_one (ps_ret (pe_callB call_len_seq (by rfl) A.len PySem.boot_len (pa_cons (pe_fld (pv 0) rfl) pa_nil)))), ?_⟩
    refine ⟨_, rfl, p, CDisk, dx, _, _, rfl, B.ins, A.cDisk, A.nDisk_waiting, df_w .., w, _, rfl, .inl (SqL.of B.hw), ?_⟩
    rw [List.length_map, B.wlen]
    exact q
theorem ok_Disk_cut_count {CDisk COutOfRange CPowerCut CKeepError : Addr} {f : Addr} {fd : FuncData} (A : All P K mg CDisk COutOfRange CPowerCut CKeepError) (F : Fun K "cut_count" "Disk.cut_count" s_Disk_cut_count f fd) : FnOk P w K mg base CX0 1 f fd ["self"] (spNum CDisk fun x => x.cuts) := by
  refine F.ok sc_Disk_cut_count (fun vs H Q E h => ?_) (fun cdv A' outer s H vs Q E hr h => ?_)
  · obtain ⟨L, p, as, x, rfl, _⟩ := h
    rfl
  · obtain ⟨L, p, as, x, rfl, ⟨dx, b, w, t, tq, B⟩, q⟩ := h
    refine ⟨_, (pss_one (ps_ret (pe_fld (pv 0) rfl))), ?_⟩
    exact ⟨_, rfl, p, CDisk, dx, _, _, rfl, B.ins, A.cDisk, A.nDisk_cuts, df_c .., q⟩
/-! ### read -/
def spRead (C CO : Addr) : Sp := fun vs H Q E => ∃ (L : Addr → Prop) (p : Addr) (as : List Addr) (x : Dk.St) (i : Int), vs = [.ref p, .int i] ∧ At C H L p as x ∧
  ((0 ≤ i ∧ i < (x.blocks.length : Int)) → ∀ (r : Addr) (H' : Hp), Same H H' → H r = none → H' r = some (.lst ((x.read i.toNat).map V.int)) → Q (.ref r) H') ∧ (¬ (0 ≤ i ∧ i < (x.blocks.length : Int)) → Rz CO "at" H E)
theorem ok_Disk_read {CDisk COutOfRange CPowerCut CKeepError : Addr} {f : Addr} {fd : FuncData} (A : All P K mg CDisk COutOfRange CPowerCut CKeepError) (F : Fun K "read" "Disk.read" s_Disk_read f fd) : FnOk P w K mg base (L2.CX P w) 4 f fd ["self", "at"] (spRead CDisk COutOfRange) := by
  obtain ⟨f_Disk__check_at, fd_Disk__check_at, F_Disk__check_at, m_Disk__check_at, b_Disk__check_at⟩ := A.Disk__check_at
  have G_Disk__check_at := ok_Disk__check_at (P := P) (w := w) (base := base) A F_Disk__check_at
  refine F.okX sc_Disk_read (fun vs H Q E h => ?_) (fun cdv A' outer s H vs Q E hr h => ?_)
  · obtain ⟨L, p, as, x, i, rfl, _⟩ := h
    rfl
  · obtain ⟨L, p, as, x, i, rfl, AT, q1, q2⟩ := h
    refine ⟨_, (pss_cons (ps_expr (pe_meth (pv 0) A.cDisk m_Disk__check_at G_Disk__check_at (hr.mono (by decide)) b_Disk__check_at .nil (passes_call (takes_of rfl rfl rfl rfl) (fun _ _ _ _ h => h)) (pa_cons (pv 1) pa_nil)))
(pss_cons (ps_for PassesOwn.leaving rfl (pi_list (pe_revL (pe_fld (pv 0) rfl))) (pg_tup rfl (pgs_cons (pg_name (i := 2) sc_Disk_read.nd rfl (.inl rfl)) (pgs_cons (pg_name (i := 3) sc_Disk_read.nd rfl (.inl rfl)) pgs_nil)))
(pss_one (ps_if (pt_cmpR op_eq (pv 2) (pv 1) (nomark _))
(pss_one (ps_ret (pe_callTy call_list_of (by rfl) A.list (by decide +kernel) (pa_cons (pv 3) pa_nil))))
pss_nil)))
(pss_one (ps_ret (pe_callTy call_list_of (by rfl) A.list (by decide +kernel) (pa_cons (pe_ix ix_list (pe_fld (pv 0) rfl) (pv 1) (fun _ _ => rfl)) pa_nil)))))), ?_⟩
    obtain ⟨dx, b, w, t, tq, B⟩ := id AT
    refine ⟨_, rfl, p, dx, _, rfl, B.ins, meth_no (by decide +kernel), _, rfl, L, p, as, x, i, rfl, AT, fun ok => ?_, q2⟩
    have q := q1 ok
    obtain ⟨j, rfl⟩ : ∃ j : Nat, i = (j : Int) := ⟨i.toNat, by omega⟩
    rw [Int.toNat_natCast] at q
    have hj : j < x.blocks.length := by omega
    refine ⟨_, rfl, p, CDisk, dx, _, _, rfl, B.ins, A.cDisk, A.nDisk_waiting, df_w .., w, _, rfl, SqL.of B.hw, fun rv nr => ?_⟩
    have s1 : Same H (upd H rv (.lst (tq.map fun e => V.ref e.1).reverse)) := same_new (Same.refl H) nr
    have hrv : (upd H rv (.lst (tq.map fun e => V.ref e.1).reverse)) rv = some (.lst (tq.map fun e => V.ref e.1).reverse) := upd_same
    generalize upd H rv (.lst (tq.map fun e => V.ref e.1).reverse) = H1 at s1 hrv ⊢
    have PR := paired_rev B.wt
    refine ⟨rv, rfl, ⟨_, SqL.of hrv⟩, ?_⟩
    refine for_it (walk_list (K := K) (a := rv) (xs := (tq.map fun e => V.ref e.1).reverse)) (fun k σ H' => H' = H1 ∧ ((x.wait.reverse.take k).find? fun e => decide (e.1 = j)) = none ∧ ∃ v2 v3 : Option V, σ = [some (.ref p), some (.int (j : Int)), v2, v3])
      ⟨rfl, rfl, none, none, rfl⟩ (fun k σ H' _ h => by rw [h.1]; exact SqL.of hrv) ?_ ?_
    · rintro k v σ H2 H2' hk ⟨rfl, hn, v2, v3, rfl⟩ ⟨rfl, hv⟩
      rw [← List.map_reverse, List.getElem?_map] at hv
      obtain ⟨g, hg, rfl⟩ : ∃ g, tq.reverse[k]? = some g ∧ v = V.ref g.1 := by
        cases e : tq.reverse[k]? with
        | none => rw [e] at hv; cases hv
        | some g => rw [e] at hv; exact ⟨g, rfl, (Option.some.inj hv).symm⟩
      have lk : k < x.wait.reverse.length := by
        rw [List.length_reverse, ← B.wlen, ← List.length_reverse]
        exact (List.getElem?_eq_some_iff.mp hg).1
      obtain ⟨g', hg', g1, g2, g3, g4⟩ := row_at PR lk
      rw [hg] at hg'
      cases hg'
      have hg1 := s1 _ _ g1
      refine ⟨g.1, _, rfl, SqT.of hg1, rfl, _, _, rfl, _, _, rfl, rfl, ?_⟩
      refine ⟨_, rfl, _, rfl, rfl, _, rfl, ite2 (fun e => ?_) (fun e => ?_)⟩
      · have ej : (x.wait.reverse[k]).1 = j := by
          have := V.int.inj (of_decide_eq_true e)
          omega
        refine ⟨_, rfl, g.2, _, rfl, .inl (SqL.of (s1 _ _ g2)), fun r nr2 => ?_⟩
        refine q r _ (same_new s1 nr2) (fnone s1 nr2) ?_
        rw [upd_same]
        have : x.read j = (x.wait.reverse[k]).2 := by
          unfold Dk.St.read
          rw [find_at lk hn (decide_eq_true ej)]
          rfl
        rw [this]
      · refine ⟨rfl, ?_, _, _, rfl⟩
        rw [List.take_succ, List.getElem?_eq_getElem lk, List.find?_append, hn, Option.none_or]
        have : ¬ (x.wait.reverse[k]).1 = j := fun z => e (decide_eq_true (by rw [z]))
        rw [show (some x.wait.reverse[k]).toList = [x.wait.reverse[k]] from rfl, List.find?_cons_of_neg (by simpa using this)]
        rfl
    · rintro σ H2 ⟨rfl, hn, v2, v3, rfl⟩
      rw [List.length_reverse, List.length_map, B.wlen, ← List.length_reverse, List.take_length] at hn
      obtain ⟨a, ha, hrow⟩ := rows_get B.rows hj
      have hat : atI (as.map V.ref) (j : Int) = some (.ref a) := atI_nat (by rw [List.getElem?_map, ha]; rfl)
      refine ⟨_, rfl, p, CDisk, dx, _, _, rfl, s1 _ _ B.ins, A.cDisk, A.nDisk_blocks, df_b .., _, rfl, b, _, _, _, rfl, rfl, SqL.of (s1 _ _ B.hb), hat, a, _, rfl, .inl (SqL.of (s1 _ _ hrow)), fun r nr2 => ?_⟩
      refine q r _ (same_new s1 nr2) (fnone s1 nr2) ?_
      rw [upd_same]
      have : x.read j = x.blocks.getD j [] := by
        unfold Dk.St.read
        rw [hn]
        rfl
      rw [this]
end
end K41
set_option Elab.async false
set_option linter.all false
set_option maxRecDepth 100000
set_option maxHeartbeats 4000000
/-! K41e: write. -/
namespace K41
open PySem PySem.Spec PyProof.Rows L2 Gd Com Bk Nw Xs Dk
section
variable {P : Program} {w : World} {K : PySem.W.Frag} {mg : Str → Option Value} {base : Heap}
/-! ### write, flush, cut_power -/
def spWrite (K : PySem.W.Frag) (C CO CP : Addr) : Sp := fun vs H Q E => ∃ (L : Addr → Prop) (p m : Addr) (as : List Addr) (x : Dk.St) (i : Int) (r : List Int), vs = [.ref p, .int i, .ref m] ∧ At C H L p as x ∧ SqL K H m (r.map V.int) ∧ r.length ≤ 1000 ∧ ¬ L m ∧ x.torn.length ≤ 2000 ∧ x.wait.length ≤ 900 ∧
  (¬ (0 ≤ i ∧ i < (x.blocks.length : Int)) → Rz CO "at" H E) ∧
  ((0 ≤ i ∧ i < (x.blocks.length : Int)) → ¬ (r.length = 32 ∧ ∀ k ∈ r, 0 ≤ k ∧ k ≤ 255) → Rz CO "block" H E) ∧
  ((0 ≤ i ∧ i < (x.blocks.length : Int)) → (r.length = 32 ∧ ∀ k ∈ r, 0 ≤ k ∧ k ≤ 255) → x.left ≠ some 0 → ∀ (H' : Hp) (L' : Addr → Prop), Stp H H' L L' → At C H' L' p as { St.down x with wait := x.wait ++ [(i.toNat, r)] } → Q .non H') ∧
  ((0 ≤ i ∧ i < (x.blocks.length : Int)) → (r.length = 32 ∧ ∀ k ∈ r, 0 ≤ k ∧ k ≤ 255) → x.left = some 0 → ∀ (H' : Hp) (L' : Addr → Prop), Stp H H' L L' → At C H' L' p as (x.cut x.torn) → E (.ref CP) none H')
def okB (k : Int) : Bool := decide (0 ≤ k) && decide (k ≤ 255)
theorem down_wait (x : Dk.St) : (St.down x).wait = x.wait ∧ (St.down x).blocks = x.blocks ∧ (St.down x).cuts = x.cuts ∧ (St.down x).torn = x.torn := by
  unfold St.down
  split <;> exact ⟨rfl, rfl, rfl, rfl⟩
theorem ok_Disk_write {CDisk COutOfRange CPowerCut CKeepError : Addr} {f : Addr} {fd : FuncData} (A : All P K mg CDisk COutOfRange CPowerCut CKeepError) (F : Fun K "write" "Disk.write" s_Disk_write f fd) : FnOk P w K mg base (L2.CX P w) 4 f fd ["self", "at", "block"] (spWrite K CDisk COutOfRange CPowerCut) := by
  obtain ⟨f_Disk__check_at, fd_Disk__check_at, F_Disk__check_at, m_Disk__check_at, b_Disk__check_at⟩ := A.Disk__check_at
  have G_Disk__check_at := ok_Disk__check_at (P := P) (w := w) (base := base) A F_Disk__check_at
  obtain ⟨f_Disk__count_down, fd_Disk__count_down, F_Disk__count_down, m_Disk__count_down, b_Disk__count_down⟩ := A.Disk__count_down
  have G_Disk__count_down := ok_Disk__count_down (P := P) (w := w) (base := base) A F_Disk__count_down
  refine F.okX sc_Disk_write (fun vs H Q E h => ?_) (fun cdv A' outer s H vs Q E hr h => ?_)
  · obtain ⟨L, p, m, as, x, i, r, rfl, _⟩ := h
    rfl
  · obtain ⟨L, p, m, as, x, i, r, rfl, AT, hS, hrl, nLm, tl, wl, q1, q2, q3, q4⟩ := h
    refine ⟨_, (pss_cons (ps_expr (pe_meth (pv 0) A.cDisk m_Disk__check_at G_Disk__check_at (hr.mono (by decide)) b_Disk__check_at .nil (passes_call (takes_of rfl rfl rfl rfl) (fun _ _ _ _ h => h)) (pa_cons (pv 1) pa_nil)))
(pss_cons (ps_if (PW.pt (pw_or (pt_cmpR op_ne (pe_callB call_len_seq (by rfl) A.len PySem.boot_len (pa_cons (pv 2) pa_nil)) (pe_cst (by rfl) A.cBLOCK) (nomark _)) (pw_or1 (pt_not (pt_val (pe_callB (cr_all rfl) (by rfl) A.all (by decide +kernel) (pa_cons (pe_lc (own := [("byte", 3)]) (tt := tYes) rfl sc_Disk_write.nd (pi_list (pv 2)) (blkOk_by (N := ["self", "at", "block", "byte"]) (sc := defScope s_Disk_write) (by decide +kernel)) (fun _ _ _ _ _ => pg_name (i := 3) sc_Disk_write.nd rfl (Or.inl rfl)) (fun _ _ _ _ _ => pts_nil) (fun _ _ _ _ _ => (pe_chain op_le op_le pe_int (pv 3) (pe_cst (by rfl) A.c_BYTE_MOST)))) pa_nil)))))))
(pss_one (ps_out rfl A.xOutOfRange (hr.mono (by decide)) (takes_of rfl rfl rfl rfl) (by decide) (by rfl)))
pss_nil)
(pss_cons (ps_expr (pe_meth0 (pv 0) A.cDisk m_Disk__count_down G_Disk__count_down (hr.mono (by decide)) b_Disk__count_down .nil (passes_call (takes_of rfl rfl rfl rfl) (fun _ _ _ _ h => h))))
(pss_one (ps_expr (pe_bm PySem.F.plainAttrs_list PySem.F.slot_list_append PySem.F.type_list_append mt_append (pe_fld (pv 0) rfl) (pa_cons (pe_tup (pa_cons (pv 1) (pa_cons (pe_callTy call_list_of (by rfl) A.list (by decide +kernel) (pa_cons (pv 2) pa_nil)) pa_nil))) pa_nil))))))), ?_⟩
    obtain ⟨dx, b, w, t, tq, B⟩ := id AT
    refine ⟨_, rfl, p, dx, _, rfl, B.ins, meth_no (by decide +kernel), _, rfl, L, p, as, x, i, rfl, AT, fun ok => ?_, q1⟩
    have q2 := q2 ok
    have q3 := q3 ok
    have q4 := q4 ok
    refine ⟨_, rfl, m, _, rfl, .inl hS, rfl, _, rfl, ?_⟩
    rw [List.length_map]
    refine ite2 (fun e => ?_) (fun e => ?_)
    · refine rz_go (q2 fun z => ?_) (Same.refl H)
      rw [z.1] at e
      exact absurd e (by decide)
    have l32 : r.length = 32 := by
      have : ¬ (!decide (V.int (r.length : Int) = V.int 32)) = true := e
      have h2 : V.int (r.length : Int) = V.int 32 := by simpa using this
      have := V.int.inj h2
      omega
    refine ⟨_, rfl, m, rfl, ⟨_, hS⟩, fun D nD => ?_⟩
    refine lc_list (K := K) (a := m) (xs := r.map V.int) (fun i H' => H' D = some (.lst ((r.take i).map fun k => V.bl (okB k))) ∧ Same H H') ⟨upd_same, same_new (Same.refl H) nD⟩ (fun i H' _ h => h.2.seq hS) ?_ ?_
    · rintro i v H1 hv ⟨hD, s1⟩
      obtain ⟨k, hk, rfl⟩ := map_at hv
      refine ⟨rfl, _, rfl, _, _, rfl, rfl, _, rfl, ?_⟩
      have fin : ∀ b, b = okB k → ∃ acc, H1 D = some (.lst acc) ∧ acc.length < sizeLine ∧ (upd H1 D (.lst (acc ++ [V.bl b]))) D = some (.lst ((r.take (i + 1)).map fun k => V.bl (okB k))) ∧ Same H (upd H1 D (.lst (acc ++ [V.bl b]))) := by
        rintro b rfl
        refine ⟨_, hD, ?_, ?_, same_mut s1 nD⟩
        · rw [List.length_map, List.length_take, sizeLine_eq]
          omega
        · rw [upd_same, List.take_succ, hk, List.map_append]
          rfl
      refine ite2 (fun e => ?_) (fun e => ?_)
      · refine ⟨_, _, rfl, rfl, fin _ ?_⟩
        unfold okB
        rw [e, Bool.true_and]
      · refine fin _ ?_
        unfold okB
        cases d : decide (0 ≤ k) with
        | true => exact absurd d e
        | false => rfl
    · rintro H1 ⟨hD, s1⟩
      rw [List.length_map, List.take_length] at hD
      have hD' : H1 D = some (.lst ((r.map okB).map V.bl)) := by
        rw [hD, List.map_map]
        rfl
      have key : (r.map okB).all id = true ↔ ∀ k ∈ r, 0 ≤ k ∧ k ≤ 255 := by
        rw [List.all_eq_true]
        constructor
        · intro h k hk
          have := h (okB k) (List.mem_map.mpr ⟨k, hk, rfl⟩)
          unfold okB at this
          rw [id, Bool.and_eq_true] at this
          exact ⟨of_decide_eq_true this.1, of_decide_eq_true this.2⟩
        · intro h b hb
          obtain ⟨k, hk, rfl⟩ := List.mem_map.mp hb
          unfold okB
          rw [id, decide_eq_true (h k hk).1, decide_eq_true (h k hk).2]
          rfl
      refine ⟨D, _, rfl, SqL.of hD', _, rfl, ?_⟩
      cases e : (r.map okB).all id with
      | false => exact iteT (rz_go (q2 fun h => by rw [key.mpr h.2] at e; cases e) s1)
      | true =>
        refine iteF ?_
        have good : r.length = 32 ∧ ∀ k ∈ r, 0 ≤ k ∧ k ≤ 255 := ⟨l32, key.mp e⟩
        have q3 := q3 good
        have q4 := q4 good
        have A1 := AT.same s1
        obtain ⟨dx1, b1, w1, t1, tq1, B1⟩ := id A1
        refine ⟨_, rfl, p, dx1, _, rfl, B1.ins, meth_no (by decide +kernel), L, p, as, x, rfl, A1, tl, fun nz H2 s2 A2 => ?_, fun z H2 L2' s2 A2 => q4 z H2 L2' ((Stp.same (s := s1)).trans s2) A2⟩
        have q3 := q3 nz
        obtain ⟨dx2, b2, w2, t2, tq2, B2⟩ := id A2
        obtain ⟨dw, db, dc, dt⟩ := down_wait x
        have hS2 : SqL K H2 m (r.map V.int) := by
          have h1 := s1.seq hS
          rcases h1 with h1 | h1
          · exact .inl (h1.imp (fun h => s2.keep _ _ nLm h) fun ⟨o, h⟩ => ⟨o, s2.keep _ _ nLm h⟩)
          · exact .inr h1
        refine ⟨_, rfl, p, CDisk, dx2, _, _, rfl, B2.ins, A.cDisk, A.nDisk_waiting, df_w .., .inl ⟨rfl, _, SqL.of B2.hw⟩, _, rfl, _, rfl, m, _, rfl, .inl hS2, fun n nn => ⟨(by show 2 ≤ sizeLine; decide), fun T nT => ?_⟩⟩
        have sn : Same H2 (upd H2 n (.lst (r.map V.int))) := same_new (Same.refl H2) nn
        have sT := same_new (o := .tup [.int i, .ref n]) sn nT
        have hn : (upd (upd H2 n (.lst (r.map V.int))) T (.tup [.int i, .ref n])) n = some (.lst (r.map V.int)) := by
          rw [upd_ne (ne_of_none (o := .lst _) upd_same nT)]
          exact upd_same
        have hT : (upd (upd H2 n (.lst (r.map V.int))) T (.tup [.int i, .ref n])) T = some (.tup [.int i, .ref n]) := upd_same
        have nT2 : H2 T = none := fnone sn nT
        generalize upd (upd H2 n (.lst (r.map V.int))) T (.tup [.int i, .ref n]) = H3 at sT hn hT ⊢
        refine ⟨w2, _, _, rfl, rfl, sT _ _ B2.hw, ?_, ?_⟩
        · rw [List.length_map, B2.wlen, dw, sizeLine_eq]
          omega
        have nLn : ¬ L n := fun z => B2.reg _ z nn
        have nLT : ¬ L T := fun z => B2.reg _ z nT2
        have nnw : n ≠ w2 := fun z => nLn (by rw [z]; exact B2.lw)
        have nTw : T ≠ w2 := fun z => nLT (by rw [z]; exact B2.lw)
        obtain ⟨j, rfl⟩ : ∃ j : Nat, i = (j : Int) := ⟨i.toNat, by omega⟩
        rw [Int.toNat_natCast] at q3
        have hj : j < x.blocks.length := by omega
        have nH0 : ∀ {a : Addr}, ¬ L a → H2 a = none → H a = none := fun {a} nl h => by
          cases e : H a with
          | none => rfl
          | some o => exact absurd ((s2.keep _ _ nl (s1 _ _ e)).symm.trans h) (fun z => nomatch z)
        have st3 : Stp H (upd H3 w2 (.lst (tq2.map (fun e => V.ref e.1) ++ [.ref T]))) L (fun a => L a ∨ a = T ∨ a = n) := by
          refine ⟨fun a o nl h => ?_, fun a h => .inl h, fun a h => ?_⟩
          · rw [upd_ne (fun z : a = w2 => nl (by rw [z]; exact B2.lw))]
            exact sT _ _ (s2.keep _ _ nl (s1 _ _ h))
          · rcases h with h | h | h
            · exact .inl h
            · exact .inr (by rw [h]; exact nH0 nLT nT2)
            · exact .inr (by rw [h]; exact nH0 nLn nn)
        refine q3 _ _ st3 ⟨dx2, b2, w2, t2, tq2 ++ [(T, n)], ?_⟩
        have kp : ∀ {a : Addr} {o : HO}, H2 a = some o → a ≠ w2 → upd H3 w2 (.lst (tq2.map (fun e => V.ref e.1) ++ [.ref T])) a = some o := fun {a o} h ne => by
          rw [upd_ne ne]
          exact sT _ _ h
        have npw : p ≠ w2 := fun z => by
          have := B2.hw
          rw [← z, B2.ins] at this
          cases this
        have f2 := B2.fit
        refine ⟨?_, kp B2.hb B2.bw, ?_, B2.nd, ?_, ?_, ?_, B2.ta, B2.wa, B2.ba, B2.bw, B2.wn, ?_, .inl B2.lp, .inl B2.lb, .inl B2.lw, .inl B2.lt, fun a ha => .inl (B2.la a ha), ?_, ?_⟩
        · exact kp B2.ins npw
        · exact paired_all B2.rows fun r a ha h => kp h (fun z => B2.wa (by rw [← z]; exact ha))
        · rw [upd_same, List.map_append]
          rfl
        · show Paired _ ((x.wait) ++ [(j, r)]) _
          have wt2 := B2.wt
          rw [dw] at wt2
          refine paired_app (paired_all wt2 fun e g hg h => ?_) (paired_one ⟨?_, ?_, fun z => nLn (B2.la _ z), nnw⟩)
          · have ng : g.1 ≠ w2 := fun z => by
              have := B2.hw
              rw [← z, h.1] at this
              cases this
            exact ⟨kp h.1 ng, kp h.2.1 h.2.2.2, h.2.2⟩
          · rw [upd_ne nTw]
            exact hT
          · rw [upd_ne nnw]
            exact hn
        · exact kp B2.ht (Ne.symm B2.wn)
        · rintro a h z
          by_cases hw : a = w2
          · rw [hw, upd_same] at z
            cases z
          · rw [upd_ne hw] at z
            rcases h with h | h | h
            · cases e : H2 a with
              | none => exact B2.reg a h e
              | some o => rw [sT _ _ e] at z; cases z
            · rw [h, hT] at z
              cases z
            · rw [h, hn] at z
              cases z
        · intro g hg
          rcases List.mem_append.mp hg with hg | hg
          · exact ⟨.inl (B2.lg g hg).1, .inl (B2.lg g hg).2⟩
          · rw [List.mem_singleton.mp hg]
            exact ⟨.inr (.inl rfl), .inr (.inr rfl)⟩
        · refine ⟨f2.n1, f2.n2, f2.rows, fun e he => ?_, ?_, f2.torn⟩
          · show e.1 < (St.down x).blocks.length ∧ _
            rw [db]
            have he : e ∈ x.wait ++ [(j, r)] := he
            rcases List.mem_append.mp he with he | he
            · have := f2.wait e (by rw [dw]; exact he)
              rw [db] at this
              exact this
            · rw [List.mem_singleton.mp he]
              exact ⟨hj, l32⟩
          · show (x.wait ++ [(j, r)]).length ≤ 1000
            rw [List.length_append, List.length_singleton]
            omega
end
end K41
set_option Elab.async false
set_option linter.all false
set_option maxRecDepth 100000
set_option maxHeartbeats 4000000
/-! K41f: flush, cut_power, a new disk. -/
namespace K41
open PySem PySem.Spec PyProof.Rows L2 Gd Com Bk Nw Xs Dk
section
variable {P : Program} {w : World} {K : PySem.W.Frag} {mg : Str → Option Value} {base : Heap}
/-! ### flush -/
def spFlush (C CP : Addr) : Sp := fun vs H Q E => ∃ (L : Addr → Prop) (p : Addr) (as : List Addr) (x : Dk.St), vs = [.ref p] ∧ At C H L p as x ∧ x.torn.length ≤ 2000 ∧
  (x.left ≠ some 0 → ∀ (H' : Hp) (L' : Addr → Prop), Stp H H' L L' → At C H' L' p as (St.down x).full → Q .non H') ∧ (x.left = some 0 → ∀ (H' : Hp) (L' : Addr → Prop), Stp H H' L L' → At C H' L' p as (x.cut x.torn) → E (.ref CP) none H')
theorem ok_Disk_flush {CDisk COutOfRange CPowerCut CKeepError : Addr} {f : Addr} {fd : FuncData} (A : All P K mg CDisk COutOfRange CPowerCut CKeepError) (F : Fun K "flush" "Disk.flush" s_Disk_flush f fd) : FnOk P w K mg base (L2.CX P w) 4 f fd ["self"] (spFlush CDisk CPowerCut) := by
  obtain ⟨f_Disk__count_down, fd_Disk__count_down, F_Disk__count_down, m_Disk__count_down, b_Disk__count_down⟩ := A.Disk__count_down
  have G_Disk__count_down := ok_Disk__count_down (P := P) (w := w) (base := base) A F_Disk__count_down
  obtain ⟨f_Disk__store, fd_Disk__store, F_Disk__store, m_Disk__store, b_Disk__store⟩ := A.Disk__store
  have G_Disk__store := ok_Disk__store (P := P) (w := w) (base := base) A F_Disk__store
  refine F.okX sc_Disk_flush (fun vs H Q E h => ?_) (fun cdv A' outer s H vs Q E hr h => ?_)
  · obtain ⟨L, p, as, x, rfl, _⟩ := h
    rfl
  · obtain ⟨L, p, as, x, rfl, AT, tl, q1, q2⟩ := h
    refine ⟨_, (pss_cons (ps_expr (pe_meth0 (pv 0) A.cDisk m_Disk__count_down G_Disk__count_down (hr.mono (by decide)) b_Disk__count_down .nil (passes_call (takes_of rfl rfl rfl rfl) (fun _ _ _ _ h => h))))
(pss_one (ps_expr (pe_meth (pv 0) A.cDisk m_Disk__store G_Disk__store (hr.mono (by decide)) b_Disk__store .nil pass0 (pa_cons (pe_op op_rep (pe_lst (pa_cons (pe_cst (by rfl) A.cBLOCK) pa_nil)) (pe_callB call_len_seq (by rfl) A.len PySem.boot_len (pa_cons (pe_fld (pv 0) rfl) pa_nil))) pa_nil))))), ?_⟩
    obtain ⟨dx, b, w, t, tq, B⟩ := id AT
    refine ⟨_, rfl, p, dx, _, rfl, B.ins, meth_no (by decide +kernel), L, p, as, x, rfl, AT, tl, fun nz H2 s2 A2 => ?_, q2⟩
    have q1 := q1 nz
    obtain ⟨dx2, b2, w2, t2, tq2, B2⟩ := id A2
    obtain ⟨dw, db, dc, dt⟩ := down_wait x
    refine ⟨_, rfl, p, dx2, _, rfl, B2.ins, meth_no (by decide +kernel), (by show 1 ≤ sizeLine; decide), fun l nl => ?_⟩
    have s3 : Same H2 (upd H2 l (.lst [.int 32])) := same_new (Same.refl H2) nl
    have few := B2.fit.few
    refine ⟨_, rfl, p, CDisk, dx2, _, _, rfl, s3 _ _ B2.ins, A.cDisk, A.nDisk_waiting, df_w .., w2, _, rfl, .inl (SqL.of (s3 _ _ B2.hw)), l, _, _, rfl, rfl, upd_same, by rw [List.length_map]; omega, by rw [List.length_map, B2.wlen]; omega, by rw [List.length_map, B2.wlen, sizeLine_eq]; simp only [List.length_cons, List.length_nil]; omega, fun m nm => ?_⟩
    have s4 := same_new (o := .lst (List.replicate (((tq2.map fun e => V.ref e.1).length : Nat) : Int).toNat [V.int 32]).flatten) s3 nm
    have ev : (List.replicate (((tq2.map fun e => V.ref e.1).length : Nat) : Int).toNat [V.int 32]).flatten = (List.replicate (St.down x).wait.length 32).map fun k : Nat => V.int (k : Int) := by
      rw [rep_flat, List.length_map, B2.wlen, Int.toNat_natCast, List.map_replicate]
      rfl
    have hm : (upd (upd H2 l (.lst [.int 32])) m (.lst (List.replicate (((tq2.map fun e => V.ref e.1).length : Nat) : Int).toNat [V.int 32]).flatten)) m = some (.lst ((List.replicate (St.down x).wait.length 32).map fun k : Nat => V.int (k : Int))) := by
      rw [upd_same, ev]
    have nmL : ¬ L m := fun z => B2.reg _ z (fnone s3 nm)
    generalize upd (upd H2 l (.lst [.int 32])) m (.lst (List.replicate (((tq2.map fun e => V.ref e.1).length : Nat) : Int).toNat [V.int 32]).flatten) = H3 at s4 hm ⊢
    refine ⟨L, p, m, as, St.down x, List.replicate (St.down x).wait.length 32, rfl, A2.same s4, SqL.of hm, fun z => nmL (B2.la _ z), fun k hk => by rw [List.eq_of_mem_replicate hk]; omega, by rw [List.length_replicate]; omega, fun H4 L4 s5 A4 => ?_⟩
    exact q1 H4 L4 (s2.trans ((Stp.same (s := s4)).trans s5)) A4
/-! ### cut_power -/
def spPower (K : PySem.W.Frag) (C CO : Addr) : Sp := fun vs H Q E => ∃ (L : Addr → Prop) (p m : Addr) (as : List Addr) (x : Dk.St) (ks : List Int), vs = [.ref p, .ref m] ∧ At C H L p as x ∧ SqL K H m (ks.map V.int) ∧ ¬ L m ∧ ks.length ≤ 1000 ∧
  ((∀ k ∈ ks, 0 ≤ k ∧ k ≤ 32) → ∀ (H' : Hp) (L' : Addr → Prop), Stp H H' L L' → At C H' L' p as (x.cut (ks.map Int.toNat)) → Q .non H') ∧ (¬ (∀ k ∈ ks, 0 ≤ k ∧ k ≤ 32) → Rz CO "torn" H E)
theorem nats_of {ks : List Int} (h : ∀ k ∈ ks, 0 ≤ k ∧ k ≤ 32) : ks.map V.int = (ks.map Int.toNat).map fun k : Nat => V.int (k : Int) := by
  rw [List.map_map]
  refine List.map_congr_left fun k hk => ?_
  have := h k hk
  show V.int k = V.int ((k.toNat : Nat) : Int)
  rw [show ((k.toNat : Nat) : Int) = k by omega]
theorem ok_Disk_cut_power {CDisk COutOfRange CPowerCut CKeepError : Addr} {f : Addr} {fd : FuncData} (A : All P K mg CDisk COutOfRange CPowerCut CKeepError) (F : Fun K "cut_power" "Disk.cut_power" s_Disk_cut_power f fd) : FnOk P w K mg base (L2.CX P w) 4 f fd ["self", "torn"] (spPower K CDisk COutOfRange) := by
  obtain ⟨f_Disk__cut, fd_Disk__cut, F_Disk__cut, m_Disk__cut, b_Disk__cut⟩ := A.Disk__cut
  have G_Disk__cut := ok_Disk__cut (P := P) (w := w) (base := base) A F_Disk__cut
  obtain ⟨f_check_torn, fd_check_torn, F_check_torn, g_check_torn, b_check_torn⟩ := A.check_torn
  have G_check_torn := ok_check_torn (P := P) (w := w) (base := base) A F_check_torn
  refine F.okX sc_Disk_cut_power (fun vs H Q E h => ?_) (fun cdv A' outer s H vs Q E hr h => ?_)
  · obtain ⟨L, p, m, as, x, ks, rfl, _⟩ := h
    rfl
  · obtain ⟨L, p, m, as, x, ks, rfl, AT, hS, nL, kl, q1, q2⟩ := h
    refine ⟨_, (pss_cons (ps_expr (pe_callS G_check_torn (hr.mono (by decide)) (by rfl) g_check_torn F_check_torn.kp b_check_torn (fun σ => passAt (takes_of rfl rfl rfl rfl) σ) (pa_cons (pv 1) pa_nil)))
(pss_one (ps_expr (pe_meth (pv 0) A.cDisk m_Disk__cut G_Disk__cut (hr.mono (by decide)) b_Disk__cut .nil pass0 (pa_cons (pv 1) pa_nil))))), ?_⟩
    refine ⟨_, rfl, m, ks, rfl, hS, kl, fun ok H1 s1 => ?_, q2⟩
    have A1 := AT.same s1
    obtain ⟨dx, b, w, t, tq, B⟩ := id A1
    have hS1 := s1.seq hS
    rw [nats_of ok] at hS1
    refine ⟨_, rfl, p, dx, _, rfl, B.ins, meth_no (by decide +kernel), _, rfl, L, p, m, as, x, ks.map Int.toNat, rfl, A1, hS1, fun z => nL (B.la _ z), fun k hk => ?_, by rw [List.length_map]; omega, fun H2 L2' s2 A2 => q1 ok H2 L2' ((Stp.same (s := s1)).trans s2) A2⟩
    obtain ⟨c, hc, rfl⟩ := List.mem_map.mp hk
    have := ok c hc
    omega
/-! ### __init__ -/
def fresh (n : Nat) : Dk.St := ⟨List.replicate n (List.replicate 32 0), [], 0, none, []⟩
def spMake (C CO : Addr) : Sp := fun vs H Q E => ∃ (p dx : Addr) (n : Int), vs = [.ref p, .int n] ∧ H p = some (.ins C dx []) ∧
  ((8 ≤ n ∧ n ≤ 400) → ∀ (H' : Hp) (L : Addr → Prop) (as : List Addr), (∀ a o, a ≠ p → H a = some o → H' a = some o) → (∀ a, L a → a = p ∨ H a = none) → At C H' L p as (fresh n.toNat) → Q .non H') ∧ (¬ (8 ≤ n ∧ n ≤ 400) → Rz CO "blocks" H E)
theorem fresh_fit {n : Nat} (h1 : 8 ≤ n) (h2 : n ≤ 400) : Fit (fresh n) := by
  refine ⟨?_, ?_, ?_, fun _ h => (nomatch h), Nat.zero_le _, fun _ h => (nomatch h)⟩
  · show 8 ≤ (List.replicate n _).length
    rw [List.length_replicate]
    exact h1
  · show (List.replicate n _).length ≤ 400
    rw [List.length_replicate]
    exact h2
  · intro r hr
    rw [List.eq_of_mem_replicate (show r ∈ List.replicate n (List.replicate 32 (0 : Int)) from hr), List.length_replicate]
theorem ok_Disk___init__ {CDisk COutOfRange CPowerCut CKeepError : Addr} {f : Addr} {fd : FuncData} (A : All P K mg CDisk COutOfRange CPowerCut CKeepError) (F : Fun K "__init__" "Disk.__init__" s_Disk___init__ f fd) : FnOk P w K mg base (L2.CX P w) 3 f fd ["self", "blocks"] (spMake CDisk COutOfRange) := by
  refine F.okX sc_Disk___init__ (fun vs H Q E h => ?_) (fun cdv A' outer s H vs Q E hr h => ?_)
  · obtain ⟨p, dx, n, rfl, _⟩ := h
    rfl
  · obtain ⟨p, dx, n, rfl, hp, q1, q2⟩ := h
    refine ⟨_, (pss_cons (ps_if (pt_not (pt_chain op_le op_le (pe_cst (by rfl) A.c_BLOCKS_LEAST) (pv 1) (pe_cst (by rfl) A.cBLOCKS_MOST)))
(pss_one (ps_out rfl A.xOutOfRange (hr.mono (by decide)) (takes_of rfl rfl rfl rfl) (by decide) (by rfl)))
pss_nil)
(pss_cons (ps_fld (pv 0) (pe_lc (own := [("_", 2)]) (tt := tYes) rfl sc_Disk___init__.nd (pi_range1 (by rfl) A.range (pa_cons (pv 1) pa_nil)) (blkOk_by (N := ["self", "blocks", "_"]) (sc := defScope s_Disk___init__) (by decide +kernel)) (fun _ _ _ _ _ => pg_name (i := 2) sc_Disk___init__.nd rfl (Or.inl rfl)) (fun _ _ _ _ _ => pts_nil) (fun _ _ _ _ _ => (pe_op op_rep (pe_lst (pa_cons pe_int pa_nil)) (pe_cst (by rfl) A.cBLOCK)))) rfl)
(pss_cons (ps_fld (pv 0) (pe_lst pa_nil) rfl)
(pss_cons (ps_fld (pv 0) pe_int rfl)
(pss_cons (ps_fld (pv 0) pe_non rfl)
(pss_one (ps_fld (pv 0) (pe_lst pa_nil) rfl))))))), ?_⟩
    refine ⟨_, rfl, _, _, rfl, rfl, _, rfl, ite2 (fun e => ⟨_, _, rfl, rfl, _, rfl, ite2 (fun e2 => ?_) (fun e2 => ?_)⟩) (fun e => ⟨_, rfl, iteT (rz_go (q2 fun z => e (decide_eq_true z.1)) (Same.refl H))⟩)⟩
    · refine rz_go (q2 fun z => ?_) (Same.refl H)
      have e2' : (!decide (n ≤ 400)) = true := e2
      rw [decide_eq_true z.2] at e2'
      cases e2'
    have ok : 8 ≤ n ∧ n ≤ 400 := ⟨of_decide_eq_true e, by simpa using e2⟩
    have q := q1 ok
    obtain ⟨k, rfl⟩ : ∃ k : Nat, n = (k : Int) := ⟨n.toNat, by omega⟩
    rw [Int.toNat_natCast] at q
    refine ⟨_, rfl, (k : Int), rfl, by omega, by omega, fun D nD => ?_⟩
    rw [Int.toNat_natCast]
    have s0 : Same H (upd H D (.lst [])) := same_new (Same.refl H) nD
    refine lc_range (lo := 0) (n := k) (fun i H' => ∃ as : List Addr, H' D = some (.lst (as.map V.ref)) ∧ Paired (fun r a => H' a = some (.lst (r.map V.int))) (List.replicate i (List.replicate 32 (0 : Int))) as ∧ as.Nodup ∧ (∀ a ∈ as, H a = none ∧ a ≠ D) ∧ Same H H')
      ⟨[], upd_same, .nil, List.nodup_nil, fun _ h => (nomatch h), s0⟩ ?_ ?_
    · rintro i H1 hi ⟨as, hD, rows, nd, fr, s1⟩
      refine ⟨rfl, (by show 1 ≤ sizeLine; decide), fun l nl => ?_⟩
      have s2 := same_new (o := .lst [.int 0]) s1 nl
      refine ⟨l, 32, _, rfl, rfl, upd_same, by decide, by decide, by decide +kernel, fun a na => ?_⟩
      have s12 : Same H1 (upd H1 l (.lst [.int 0])) := same_new (Same.refl H1) nl
      have s13 := same_new (o := .lst (List.replicate (32 : Int).toNat [V.int 0]).flatten) s12 na
      have ha : (upd (upd H1 l (.lst [.int 0])) a (.lst (List.replicate (32 : Int).toNat [V.int 0]).flatten)) a = some (.lst ((List.replicate 32 (0 : Int)).map V.int)) := by
        rw [upd_same, rep_flat, List.map_replicate]
        rfl
      have na1 : H1 a = none := fnone s12 na
      have naD : a ≠ D := fun z => by
        rw [z, hD] at na1
        cases na1
      generalize upd (upd H1 l (.lst [.int 0])) a (.lst (List.replicate (32 : Int).toNat [V.int 0]).flatten) = H3 at s13 ha ⊢
      have kp : ∀ {c : Addr} {o : HO}, c ≠ D → H1 c = some o → upd H3 D (.lst (as.map V.ref ++ [.ref a])) c = some o := fun {c o} n e => by
        rw [upd_ne n]
        exact s13 _ _ e
      have las : as.length = i := by
        have := Paired.length rows
        rw [List.length_replicate] at this
        exact this.symm
      refine ⟨_, s13 _ _ hD, by rw [List.length_map, las, sizeLine_eq]; omega, as ++ [a], by rw [upd_same, List.map_append]; rfl, ?_, ?_, ?_, ?_⟩
      · rw [List.replicate_succ']
        exact paired_app (paired_all rows fun r c hc e => kp (fr c hc).2 e) (paired_one (by rw [upd_ne naD]; exact ha))
      · refine List.nodup_append.mpr ⟨nd, by simp, ?_⟩
        intro c hc d hd
        rw [List.mem_singleton.mp hd]
        rintro rfl
        obtain ⟨j, hj⟩ := List.mem_iff_getElem?.mp hc
        obtain ⟨c', e1, e2⟩ := rows_get rows (i := j) (by rw [List.length_replicate, ← las]; exact (List.getElem?_eq_some_iff.mp hj).1)
        rw [hj] at e1
        cases e1
        rw [na1] at e2
        cases e2
      · intro c hc
        rcases List.mem_append.mp hc with hc | hc
        · exact fr c hc
        · rw [List.mem_singleton.mp hc]
          exact ⟨fnone s1 na1, naD⟩
      · exact same_mut (s1.trans s13) nD
    · rintro H1 ⟨as, hD, rows, nd, fr, s1⟩
      have pD : p ≠ D := ne_of_none hp nD
      refine ⟨_, rfl, p, CDisk, dx, _, rfl, s1 _ _ hp, A.cDisk, A.nDisk_blocks, (by show 0 < 1000; decide), ?_⟩
      have f1 : putF "_blocks" (.ref D) [] = [(("_blocks" : Str), V.ref D)] := rfl
      rw [f1]
      refine ⟨Nat.zero_le _, fun w nw => ?_⟩
      have npw : p ≠ w := fun z => by rw [← z, upd_same] at nw; cases nw
      refine ⟨_, rfl, p, CDisk, dx, _, rfl, (by rw [upd_ne npw]; exact upd_same), A.cDisk, A.nDisk_waiting, (by show 1 < 1000; decide), ?_⟩
      have f2 : putF "_waiting" (.ref w) [(("_blocks" : Str), V.ref D)] = [(("_blocks" : Str), V.ref D), ("_waiting", V.ref w)] := putF_other ne_bw _ _ _
      rw [f2]
      refine ⟨_, rfl, p, CDisk, dx, _, rfl, upd_same, A.cDisk, A.nDisk_cuts, (by show 2 < 1000; decide), ?_⟩
      have f3 : putF "_cuts" (.int 0) [(("_blocks" : Str), V.ref D), ("_waiting", V.ref w)] = [(("_blocks" : Str), V.ref D), ("_waiting", V.ref w), ("_cuts", .int 0)] := by
        rw [putF_other ne_bc, putF_other ne_wc]
        rfl
      rw [f3]
      refine ⟨_, rfl, p, CDisk, dx, _, rfl, upd_same, A.cDisk, A.nDisk_left, (by show 3 < 1000; decide), ?_⟩
      have f4 : putF "_left" .non [(("_blocks" : Str), V.ref D), ("_waiting", V.ref w), ("_cuts", .int 0)] = [(("_blocks" : Str), V.ref D), ("_waiting", V.ref w), ("_cuts", .int 0), ("_left", .non)] := by
        rw [putF_other ne_bl, putF_other ne_wl, putF_other ne_cl]
        rfl
      rw [f4]
      refine ⟨Nat.zero_le _, fun t nt => ?_⟩
      have npt : p ≠ t := fun z => by rw [← z, upd_same] at nt; cases nt
      refine ⟨_, rfl, p, CDisk, dx, _, rfl, (by rw [upd_ne npt]; exact upd_same), A.cDisk, A.nDisk_torn, (by show 4 < 1000; decide), ?_⟩
      have f5 : putF "_torn" (.ref t) [(("_blocks" : Str), V.ref D), ("_waiting", V.ref w), ("_cuts", .int 0), ("_left", .non)] = df D w 0 .non t := by
        rw [putF_other ne_bt, putF_other ne_wt, putF_other ne_ct, putF_other ne_lt]
        rfl
      rw [f5]
      -- the heap by places
      have wH1 : H1 w = none := by
        rw [upd_ne npw.symm] at nw
        exact nw
      have twn : t ≠ w := fun z => by
        rw [z, upd_ne npw.symm, upd_ne npw.symm, upd_ne npw.symm, upd_same] at nt
        cases nt
      have tH1 : H1 t = none := by
        rw [upd_ne npt.symm, upd_ne npt.symm, upd_ne npt.symm, upd_ne twn, upd_ne npt.symm] at nt
        exact nt
      generalize hG : upd (upd (upd (upd (upd (upd (upd H1 p (.ins CDisk dx [(("_blocks" : Str), V.ref D)])) w (.lst [])) p (.ins CDisk dx [(("_blocks" : Str), V.ref D), ("_waiting", V.ref w)])) p (.ins CDisk dx [(("_blocks" : Str), V.ref D), ("_waiting", V.ref w), ("_cuts", .int 0)])) p (.ins CDisk dx [(("_blocks" : Str), V.ref D), ("_waiting", V.ref w), ("_cuts", .int 0), ("_left", .non)])) t (.lst [])) p (.ins CDisk dx (df D w 0 .non t)) = G
      have gp : G p = some (.ins CDisk dx (df D w 0 .non t)) := by rw [← hG, upd_same]
      have gt : G t = some (.lst []) := by rw [← hG, upd_ne npt.symm, upd_same]
      have gw : G w = some (.lst []) := by rw [← hG, upd_ne npw.symm, upd_ne twn.symm, upd_ne npw.symm, upd_ne npw.symm, upd_ne npw.symm, upd_same]
      have go : ∀ {c : Addr} {o : HO}, c ≠ p → H1 c = some o → G c = some o := fun {c o} n e => by
        have n1 : c ≠ w := ne_of_none e wH1
        have n2 : c ≠ t := ne_of_none e tH1
        rw [← hG, upd_ne n, upd_ne n2, upd_ne n, upd_ne n, upd_ne n, upd_ne n1, upd_ne n]
        exact e
      have pas : p ∉ as := fun z => by
        rw [(fr p z).1] at hp
        cases hp
      have nas : ∀ {c : Addr}, H1 c = none → c ∉ as := fun {c} h z => by
        obtain ⟨j, hj⟩ := List.mem_iff_getElem?.mp z
        obtain ⟨c', e1, e2⟩ := rows_get rows (i := j) (by rw [Paired.length rows]; exact (List.getElem?_eq_some_iff.mp hj).1)
        rw [hj] at e1
        cases e1
        rw [h] at e2
        cases e2
      refine q G (fun a => a = p ∨ a = D ∨ a = w ∨ a = t ∨ a ∈ as) as (fun a o n e => go n (s1 _ _ e)) ?_ ⟨dx, D, w, t, [], ?_⟩
      · rintro a (h | h | h | h | h)
        · exact .inl h
        · exact .inr (by rw [h]; exact nD)
        · exact .inr (by rw [h]; exact fnone s1 wH1)
        · exact .inr (by rw [h]; exact fnone s1 tH1)
        · exact .inr (fr a h).1
      · refine ⟨gp, go pD.symm hD, paired_all rows fun r c hc e => go (fun z => pas (by rw [← z]; exact hc)) e, nd, gw, .nil, gt, nas tH1, nas wH1, fun z => (fr D z).2 rfl, (ne_of_none hD wH1), twn.symm, ?_, .inl rfl, .inr (.inl rfl), .inr (.inr (.inl rfl)), .inr (.inr (.inr (.inl rfl))), fun a ha => .inr (.inr (.inr (.inr ha))), fun _ h => (nomatch h), fresh_fit (by omega) (by omega)⟩
        rintro a (h | h | h | h | h) z
        · rw [h, gp] at z
          cases z
        · rw [h, go pD.symm hD] at z
          cases z
        · rw [h, gw] at z
          cases z
        · rw [h, gt] at z
          cases z
        · obtain ⟨j, hj⟩ := List.mem_iff_getElem?.mp h
          obtain ⟨c', e1, e2⟩ := rows_get rows (i := j) (by rw [Paired.length rows]; exact (List.getElem?_eq_some_iff.mp hj).1)
          rw [hj] at e1
          cases e1
          rw [go (fun y => pas (by rw [← y]; exact h)) e2] at z
          cases z
end
end K41
set_option Elab.async false
set_option linter.all false
set_option maxRecDepth 100000
set_option maxHeartbeats 4000000
/-! K41g: what is drawn. -/
namespace K41
open PySem PySem.Spec PyProof.Rows L2 Gd Com Bk Nw Xs Dk
section
variable {P : Program} {w : World} {K : PySem.W.Frag} {mg : Str → Option Value} {base : Heap}
theorem rep_new {H : Hp} {l z : Addr} {x m : Int} (nl : H l = none) (nz : upd H l (.lst [.int x]) z = none) :
    Same H (upd (upd H l (.lst [.int x])) z (.lst (List.replicate m.toNat [V.int x]).flatten)) ∧ (upd (upd H l (.lst [.int x])) z (.lst (List.replicate m.toNat [V.int x]).flatten)) z = some (.lst ((List.replicate m.toNat x).map V.int)) ∧ H z = none := by
  have s0 : Same H (upd H l (.lst [.int x])) := same_new (Same.refl H) nl
  exact ⟨same_new s0 nz, by rw [upd_same, rep_flat, List.map_replicate], fnone s0 nz⟩
theorem bx_nb {H : Hp} {b dg a : Addr} {ds : List Int} (B : Bx H b dg ds) (n : H a = none) : a ≠ b ∧ a ≠ dg := by
  obtain ⟨k, e1, e2⟩ := B
  exact ⟨(ne_of_none e1 n).symm, (ne_of_none e2 n).symm⟩
theorem fx_same {H H' : Hp} {b : Addr} (s : Same H H') : Fx b H H' := fun c o _ e => s c o e
/-- what a draw of numbers promises -/
def NewNums (H : Hp) (b dg : Addr) (ds : List Int) (Q : VK) (n : Nat) (hi : Int) : Prop := ∀ (p : Addr) (r : List Int) (H' : Hp), H p = none → H' p = some (.lst (r.map V.int)) → r.length = n → (∀ k ∈ r, 0 ≤ k ∧ k ≤ hi) → Fx b H H' → Bx H' b dg ds → Q (.ref p) H'
def spTorn : Sp := fun vs H Q _ => ∃ (b dg : Addr) (ds : List Int) (m : Nat), vs = [.ref b, .int (m : Int)] ∧ m ≤ 900 ∧ Bx H b dg ds ∧ (∀ n, n ≤ m → NewNums H b dg ds Q n 32)
theorem ok_law_torn {CDisk COutOfRange CPowerCut CKeepError : Addr} {f : Addr} {fd : FuncData} (A : All P K mg CDisk COutOfRange CPowerCut CKeepError) (F : Fun K "_law_torn" "_law_torn" s_law_torn f fd) : FnOk P w K mg base CX0 2 f fd ["box", "many"] spTorn := by
  obtain ⟨f_law_draw, fd_law_draw, F_law_draw, g_law_draw, b_law_draw⟩ := A.law_draw
  have G_law_draw := ok_law_draw (P := P) (w := w) (base := base) A F_law_draw
  refine F.ok sc_law_torn (fun vs H Q E h => ?_) (fun cdv A' outer s H vs Q E hr h => ?_)
  · obtain ⟨b, dg, ds, m, rfl, _⟩ := h
    rfl
  · obtain ⟨b, dg, ds, m, rfl, hm, B, q⟩ := h
    refine ⟨_, (pss_cons (ps_set (i := 2) sc_law_torn.nd rfl (.inl rfl) (pe_call G_law_draw (hr.mono (by decide)) (by rfl) g_law_draw F_law_draw.kp b_law_draw .nil pass0 (pa_cons (pv 0) (pa_cons pe_int pa_nil))))
(pss_cons (ps_if (pt_cmpR op_eq (pv 2) pe_int (nomark _))
(pss_one (ps_ret (pe_lst pa_nil)))
pss_nil)
(pss_cons (ps_if (pt_cmpR op_eq (pv 2) pe_int (nomark _))
(pss_one (ps_ret (pe_op op_rep (pe_lst (pa_cons pe_int pa_nil)) (pv 1))))
pss_nil)
(pss_cons (ps_if (pt_cmpR op_eq (pv 2) pe_int (nomark _))
(pss_one (ps_ret (pe_lc (own := [("k", 3)]) (tt := tYes) rfl sc_law_torn.nd (pi_range1 (by rfl) A.range (pa_cons (pv 1) pa_nil)) (blkOk_by (N := ["box", "many", "kind", "k"]) (sc := defScope s_law_torn) (by decide +kernel)) (fun _ _ _ _ _ => pg_name (i := 3) sc_law_torn.nd rfl (Or.inl rfl)) (fun _ _ _ _ _ => pts_nil) (fun _ _ _ _ _ => (pe_op op_mul pe_int (pe_call G_law_draw (hr.mono (by decide)) (by rfl) g_law_draw F_law_draw.kp b_law_draw .nil pass0 (pa_cons (pv 0) (pa_cons pe_int pa_nil))))))))
pss_nil)
(pss_one (ps_ret (pe_lc (own := [("k", 3)]) (tt := tYes) rfl sc_law_torn.nd (pi_range1 (by rfl) A.range (pa_cons (pv 1) pa_nil)) (blkOk_by (N := ["box", "many", "kind", "k"]) (sc := defScope s_law_torn) (by decide +kernel)) (fun _ _ _ _ _ => pg_name (i := 3) sc_law_torn.nd rfl (Or.inl rfl)) (fun _ _ _ _ _ => pts_nil) (fun _ _ _ _ _ => (pe_call G_law_draw (hr.mono (by decide)) (by rfl) g_law_draw F_law_draw.kp b_law_draw .nil pass0 (pa_cons (pv 0) (pa_cons pe_int pa_nil))))))))))), ?_⟩
    refine ⟨_, rfl, b, dg, ds, 4, rfl, by decide, B, fun r H1 r0 r1 f1 B1 => ⟨_, rfl, rfl, _, rfl, ite2 (fun _ => ?_) (fun _ => ⟨_, rfl, rfl, _, rfl, ite2 (fun _ => ?_) (fun _ => ⟨_, rfl, rfl, _, rfl, ite2 (fun _ => ?_) (fun _ => ?_)⟩)⟩)⟩⟩
    · exact ⟨Nat.zero_le _, fun z nz => q 0 (Nat.zero_le _) z [] _ (f1.none B nz B1) upd_same rfl (fun _ h => (nomatch h)) (f1.new nz) (B1.new nz)⟩
    · refine ⟨(by show 1 ≤ sizeLine; decide), fun l nl => ⟨_, rfl, l, (m : Int), _, rfl, rfl, upd_same, by omega, by omega, by rw [sizeLine_eq]; simp only [List.length_cons, List.length_nil]; omega, fun z nz => ?_⟩⟩
      obtain ⟨s, hz, nz0⟩ := rep_new (m := (m : Int)) nl nz
      refine q m (Nat.le_refl _) z _ _ (f1.none B nz0 B1) hz (by simp) (fun k hk => ?_) (f1.trans (fx_same s)) (Bk.bx_same s B1)
      rw [List.eq_of_mem_replicate hk]
      decide
    · refine ⟨_, rfl, (m : Int), rfl, by omega, by omega, fun D nD => ?_⟩
      rw [Int.toNat_natCast]
      have nb := bx_nb B1 nD
      refine lc_range (lo := 0) (n := m) (fun i H' => ∃ u : List Int, H' D = some (.lst (u.map V.int)) ∧ u.length = i ∧ (∀ k ∈ u, 0 ≤ k ∧ k ≤ 32) ∧ Fx b H1 H' ∧ Bx H' b dg ds) ⟨[], upd_same, rfl, fun _ h => (nomatch h), (Fx.refl b H1).new nD, B1.new nD⟩ ?_ ?_
      · rintro i H2 hi ⟨u, hD, hl, hu, f2, B2⟩
        refine ⟨rfl, _, rfl, b, dg, ds, 2, rfl, by decide, B2, fun y H3 y0 y1 f3 B3 => ?_⟩
        refine ⟨_, _, rfl, rfl, .inl ⟨by decide, by decide⟩, _, f3 _ _ nb.1 hD, by rw [List.length_map, hl, sizeLine_eq]; omega, u ++ [32 * y], by rw [upd_same, List.map_append]; rfl, by rw [List.length_append, hl]; rfl, fun k hk => ?_, (f2.trans f3).mut nD, B3.upd nb.1 nb.2⟩
        rcases List.mem_append.mp hk with h | h
        · exact hu k h
        · rw [List.mem_singleton.mp h]
          omega
      · rintro H2 ⟨u, hD, hl, hu, f2, B2⟩
        exact q m (Nat.le_refl _) D u H2 (f1.none B nD B1) hD hl hu (f1.trans f2) B2
    · refine ⟨_, rfl, (m : Int), rfl, by omega, by omega, fun D nD => ?_⟩
      rw [Int.toNat_natCast]
      have nb := bx_nb B1 nD
      refine lc_range (lo := 0) (n := m) (fun i H' => ∃ u : List Int, H' D = some (.lst (u.map V.int)) ∧ u.length = i ∧ (∀ k ∈ u, 0 ≤ k ∧ k ≤ 32) ∧ Fx b H1 H' ∧ Bx H' b dg ds) ⟨[], upd_same, rfl, fun _ h => (nomatch h), (Fx.refl b H1).new nD, B1.new nD⟩ ?_ ?_
      · rintro i H2 hi ⟨u, hD, hl, hu, f2, B2⟩
        refine ⟨rfl, _, rfl, b, dg, ds, 33, rfl, by decide, B2, fun y H3 y0 y1 f3 B3 => ?_⟩
        refine ⟨_, f3 _ _ nb.1 hD, by rw [List.length_map, hl, sizeLine_eq]; omega, u ++ [y], by rw [upd_same, List.map_append]; rfl, by rw [List.length_append, hl]; rfl, fun k hk => ?_, (f2.trans f3).mut nD, B3.upd nb.1 nb.2⟩
        rcases List.mem_append.mp hk with h | h
        · exact hu k h
        · rw [List.mem_singleton.mp h]
          omega
      · rintro H2 ⟨u, hD, hl, hu, f2, B2⟩
        exact q m (Nat.le_refl _) D u H2 (f1.none B nD B1) hD hl hu (f1.trans f2) B2
end
end K41
set_option Elab.async false
set_option linter.all false
set_option maxRecDepth 100000
set_option maxHeartbeats 4000000
/-! K42h: cuts on schedule; what the law does. -/
namespace K41
open PySem PySem.Spec PyProof.Rows L2 Gd Com Bk Nw Xs Dk
section
variable {P : Program} {w : World} {K : PySem.W.Frag} {mg : Str → Option Value} {base : Heap}
/-! ### schedule_cut -/
def spSched (K : PySem.W.Frag) (C CO : Addr) : Sp := fun vs H Q E => ∃ (L : Addr → Prop) (p m : Addr) (as : List Addr) (x : Dk.St) (i : Int) (ks : List Int), vs = [.ref p, .int i, .ref m] ∧ At C H L p as x ∧ SqL K H m (ks.map V.int) ∧ ¬ L m ∧ ks.length ≤ 1000 ∧
  (¬ (0 ≤ i ∧ i ≤ 100000) → Rz CO "many" H E) ∧ ((0 ≤ i ∧ i ≤ 100000) → ¬ (∀ k ∈ ks, 0 ≤ k ∧ k ≤ 32) → Rz CO "torn" H E) ∧
  ((0 ≤ i ∧ i ≤ 100000) → (∀ k ∈ ks, 0 ≤ k ∧ k ≤ 32) → ∀ (H' : Hp) (L' : Addr → Prop), Stp H H' L L' → At C H' L' p as { x with left := some i.toNat, torn := ks.map Int.toNat } → Q .non H')
/-- a new list of numbers of bytes -/
theorem AtB.tornTo {C p : Addr} {H : Hp} {L : Addr → Prop} {as : List Addr} {x : Dk.St} {dx b w t : Addr} {tq : List (Addr × Addr)} (B : AtB C H L p as x dx b w t tq) {u : Addr} {ms : List Nat} (nu : H u = none) (hm : ∀ k ∈ ms, k ≤ 32) :
    AtB C (upd (upd H u (.lst (ms.map fun k : Nat => V.int (k : Int)))) p (.ins C dx (df b w (x.cuts : Int) (leftV x.left) u))) (fun c => L c ∨ c = u) p as { x with torn := ms } dx b w u tq ∧
    Stp H (upd (upd H u (.lst (ms.map fun k : Nat => V.int (k : Int)))) p (.ins C dx (df b w (x.cuts : Int) (leftV x.left) u))) L (fun c => L c ∨ c = u) := by
  have nup : u ≠ p := fun z => by
    rw [z, B.ins] at nu
    cases nu
  have kp : ∀ {a : Addr} {o : HO}, H a = some o → (∀ fs, o ≠ .ins C dx fs) → upd (upd H u (.lst (ms.map fun k : Nat => V.int (k : Int)))) p (.ins C dx (df b w (x.cuts : Int) (leftV x.left) u)) a = some o := fun {a o} h n => by
    have n1 : a ≠ p := fun z => by
      rw [z, B.ins] at h
      exact n _ (Option.some.inj h).symm
    rw [upd_ne n1, upd_ne (ne_of_none h nu)]
    exact h
  have un : ∀ a, L a → a ≠ u := fun a l z => B.reg a l (by rw [z]; exact nu)
  refine ⟨⟨by rw [upd_same], kp B.hb (fun _ z => by cases z), Paired.mapP B.rows fun r a h => kp h (fun _ z => by cases z), B.nd, kp B.hw (fun _ z => by cases z), Paired.mapP B.wt fun e g h => ⟨kp h.1 (fun _ z => by cases z), kp h.2.1 (fun _ z => by cases z), h.2.2⟩, by rw [upd_ne nup, upd_same], fun z => un u (B.la u z) rfl, B.wa, B.ba, B.bw, fun z => un w B.lw z, ?_, .inl B.lp, .inl B.lb, .inl B.lw, .inr rfl, fun a h => .inl (B.la a h), fun g h => ⟨.inl (B.lg g h).1, .inl (B.lg g h).2⟩, ?_⟩, fun a o n h => ?_, fun _ h => .inl h, fun a h => ?_⟩
  · intro a l z
    by_cases e : a = p
    · rw [e, upd_same] at z
      cases z
    · rw [upd_ne e] at z
      by_cases e2 : a = u
      · rw [e2, upd_same] at z
        cases z
      · rw [upd_ne e2] at z
        exact l.elim (fun l => B.reg a l z) e2
  · have f := B.fit
    exact ⟨f.n1, f.n2, f.rows, f.wait, f.few, hm⟩
  · rw [upd_ne (fun z : a = p => n (by rw [z]; exact B.lp)), upd_ne (ne_of_none h nu)]
    exact h
  · rcases h with h | h
    · exact .inl h
    · rw [h]
      exact .inr nu
theorem ok_Disk_schedule_cut {CDisk COutOfRange CPowerCut CKeepError : Addr} {f : Addr} {fd : FuncData} (A : All P K mg CDisk COutOfRange CPowerCut CKeepError) (F : Fun K "schedule_cut" "Disk.schedule_cut" s_Disk_schedule_cut f fd) : FnOk P w K mg base (L2.CX P w) 4 f fd ["self", "many", "torn"] (spSched K CDisk COutOfRange) := by
  obtain ⟨f_check_torn, fd_check_torn, F_check_torn, g_check_torn, b_check_torn⟩ := A.check_torn
  have G_check_torn := ok_check_torn (P := P) (w := w) (base := base) A F_check_torn
  refine F.okX sc_Disk_schedule_cut (fun vs H Q E h => ?_) (fun cdv A' outer s H vs Q E hr h => ?_)
  · obtain ⟨L, p, m, as, x, i, ks, rfl, _⟩ := h
    rfl
  · obtain ⟨L, p, m, as, x, i, ks, rfl, AT, hS, nL, kl, q1, q2, q3⟩ := h
    refine ⟨_, (pss_cons (ps_if (pt_not (pt_chain op_le op_le pe_int (pv 1) (pe_cst (by rfl) A.c_SCHEDULE_MOST)))
(pss_one (ps_out rfl A.xOutOfRange (hr.mono (by decide)) (takes_of rfl rfl rfl rfl) (by decide) (by rfl)))
pss_nil)
(pss_cons (ps_expr (pe_callS G_check_torn (hr.mono (by decide)) (by rfl) g_check_torn F_check_torn.kp b_check_torn (fun σ => passAt (takes_of rfl rfl rfl rfl) σ) (pa_cons (pv 2) pa_nil)))
(pss_cons (ps_fld (pv 0) (pv 1) rfl)
(pss_one (ps_fld (pv 0) (pe_callTy call_list_of (by rfl) A.list (by decide +kernel) (pa_cons (pv 2) pa_nil)) rfl))))), ?_⟩
    refine ⟨_, rfl, _, _, rfl, rfl, _, rfl, ite2 (fun e => ⟨_, _, rfl, rfl, _, rfl, ite2 (fun e2 => ?_) (fun e2 => ?_)⟩) (fun e => ⟨_, rfl, iteT (rz_go (q1 fun z => e (decide_eq_true z.1)) (Same.refl H))⟩)⟩
    · refine rz_go (q1 fun z => ?_) (Same.refl H)
      have e2' : (!decide (i ≤ 100000)) = true := e2
      rw [decide_eq_true z.2] at e2'
      cases e2'
    have ok : 0 ≤ i ∧ i ≤ 100000 := ⟨of_decide_eq_true e, by simpa using e2⟩
    obtain ⟨j, rfl⟩ : ∃ j : Nat, i = (j : Int) := ⟨i.toNat, by omega⟩
    refine ⟨_, rfl, m, ks, rfl, hS, kl, fun ok2 H1 s1 => ?_, q2 ok⟩
    have q := q3 ok ok2
    rw [Int.toNat_natCast] at q
    obtain ⟨dx, b, w, t, tq, B⟩ := AT.same s1
    refine ⟨_, rfl, _, rfl, p, CDisk, dx, _, rfl, B.ins, A.cDisk, A.nDisk_left, df_len .., ?_⟩
    rw [put_l]
    have B2 := AtB.fld (y := { x with left := some j }) (fs := df b w (x.cuts : Int) (.int (j : Int)) t) B rfl rfl rfl rfl
    have st2 := AtB.stp B (o := .ins CDisk dx (df b w (x.cuts : Int) (.int (j : Int)) t))
    have npm : m ≠ p := fun z => nL (by rw [z]; exact B.lp)
    have hS2 : SqL K (upd H1 p (.ins CDisk dx (df b w (x.cuts : Int) (.int (j : Int)) t))) m (ks.map V.int) := by
      rcases s1.seq hS with (h | ⟨o, h⟩) | h
      · exact .inl (.inl (by rw [upd_ne npm]; exact h))
      · exact .inl (.inr ⟨o, by rw [upd_ne npm]; exact h⟩)
      · exact .inr h
    generalize upd H1 p (.ins CDisk dx (df b w (x.cuts : Int) (.int (j : Int)) t)) = H2 at B2 st2 hS2 ⊢
    refine ⟨_, rfl, m, _, rfl, .inl hS2, fun u nu => ?_⟩
    have B3 := AtB.tornTo B2 (u := u) (ms := ks.map Int.toNat) nu (fun k hk => by
      obtain ⟨c, hc, rfl⟩ := List.mem_map.mp hk
      have := ok2 c hc
      omega)
    rw [← nats_of ok2] at B3
    refine ⟨_, rfl, p, CDisk, dx, _, rfl, (by rw [upd_ne (ne_of_none B2.ins nu)]; exact B2.ins), A.cDisk, A.nDisk_torn, df_len .., ?_⟩
    rw [put_t]
    exact q _ _ (((Stp.same (s := s1)).trans st2).trans B3.2) ⟨dx, b, w, u, tq, B3.1⟩
/-! ### the law's ways to the disk -/
/-- what is told of an error -/
def TldO (CO : Addr) (Q : VK) : XK := fun cls d H => cls = .ref CO ∧ ∃ (dd : Addr) (z : Str), d = some dd ∧ H dd = some (.xd [("name", .str z)]) ∧ ∀ t, H t = none → Q (.ref t) (upd H t (.tup [.str "refused", .str z]))
def spLSched (K : PySem.W.Frag) (C CO : Addr) : Sp := fun vs H Q _ => spSched K C CO vs H Q (TldO CO Q)
theorem sched_mono {K : PySem.W.Frag} {C CO : Addr} {vs : List V} {H : Hp} {Q Q' : VK} {E E' : XK} (h : spSched K C CO vs H Q E) (kq : ∀ v H', Q v H' → Q' v H') (ke : ∀ c d H', E c d H' → E' c d H') : spSched K C CO vs H Q' E' := by
  obtain ⟨L, p, m, as, x, i, ks, e, AT, h1, h2, h3, q1, q2, q3⟩ := h
  exact ⟨L, p, m, as, x, i, ks, e, AT, h1, h2, h3, fun a d H' s n e => ke _ _ _ (q1 a d H' s n e), fun a b d H' s n e => ke _ _ _ (q2 a b d H' s n e), fun a b H' L' s A => kq _ _ (q3 a b H' L' s A)⟩
theorem ok_law_schedule {CDisk COutOfRange CPowerCut CKeepError : Addr} {f : Addr} {fd : FuncData} (A : All P K mg CDisk COutOfRange CPowerCut CKeepError) (F : Fun K "_law_schedule" "_law_schedule" s_law_schedule f fd) : FnOk P w K mg base CX0 5 f fd ["disk", "count", "torn"] (spLSched K CDisk COutOfRange) := by
  obtain ⟨f_Disk_schedule_cut, fd_Disk_schedule_cut, F_Disk_schedule_cut, m_Disk_schedule_cut, b_Disk_schedule_cut⟩ := A.Disk_schedule_cut
  have G_Disk_schedule_cut := ok_Disk_schedule_cut (P := P) (w := w) (base := base) A F_Disk_schedule_cut
  refine F.ok sc_law_schedule (fun vs H Q E h => ?_) (fun cdv A' outer s H vs Q E hr h => ?_)
  · obtain ⟨L, p, m, as, x, i, ks, rfl, _⟩ := h
    rfl
  · obtain ⟨L, p, m, as, x, i, ks, rfl, AT, _⟩ := id h
    refine ⟨_, (pss_one (ps_try_mix (tb := fun W => tRet (tMethX CDisk "schedule_cut" (spSched K CDisk COutOfRange) (WE W) (tVar 0) (tCons (tVar 1) (tCons (tVar 2) tNil)))) (Wout := fun _ _ _ _ => False) (l := [(.ref COutOfRange, some 3, (fun a cls d => tRet (tTup (tCons (tC (.str "refused")) (tCons (tErrF K "name" a cls d (tVar 3)) tNil)))))]) rfl rfl sc_law_schedule.nd takes0 (fun W pn xe tk _ => pss_one (ps_ret (pe_methX (pv 0) A.cDisk m_Disk_schedule_cut G_Disk_schedule_cut (hr.mono (by decide)) b_Disk_schedule_cut (fun σ => passAt tk σ) (pa_cons (pv 1) (pa_cons (pv 2) pa_nil))))) (.named ⟨rfl, by decide, .inl A.xOutOfRange.g⟩ rfl rfl (fun a oe cls d pn hz hf => pss_one (ps_ret (pe_tup (pa_cons pe_str (pa_cons (pe_errf hz hf (pv 3)) pa_nil))))) .nil))), ?_⟩
    obtain ⟨dx, b, w, t, tq, B⟩ := id AT
    refine ⟨_, rfl, p, dx, _, rfl, B.ins, meth_no (by decide +kernel), _, rfl, _, rfl, sched_mono h (fun v H' q => q) fun c d H' ⟨ec, dd, z, ed, hd, q⟩ => ?_⟩
    refine ⟨true, by rw [ec]; exact A.eOutOfRangeOutOfRange, fun _ a na => ?_, fun z => nomatch z⟩
    exact ⟨_, rfl, rfl, COutOfRange, dd, _, .str z, ec, A.xOutOfRange.err, ed, hd, rfl, (by show 2 ≤ sizeLine; decide), fun t nt => q t nt⟩
end
end K41
set_option Elab.async false
set_option linter.all false
set_option maxRecDepth 100000
set_option maxHeartbeats 4000000
/-! K42i: what the law does. -/
namespace K41
open PySem PySem.Spec PyProof.Rows L2 Gd Com Bk Nw Xs Dk
section
variable {P : Program} {w : World} {K : PySem.W.Frag} {mg : Str → Option Value} {base : Heap}
theorem at_ins {C : Addr} {H : Hp} {L : Addr → Prop} {p : Addr} {as : List Addr} {x : Dk.St} (A : At C H L p as x) {m : Str} (h : m ∈ (["_check_at", "_count_down", "_cut", "_store", "read", "write", "flush", "size", "pending_count", "cut_count", "cut_power", "schedule_cut"] : List Str)) : ∃ dx fs, H p = some (.ins C dx fs) ∧ fs.lookup m = none := by
  obtain ⟨dx, b, w, t, tq, B⟩ := A
  exact ⟨dx, _, B.ins, meth_no h⟩
def spDo (K : PySem.W.Frag) (C CO CP : Addr) : Sp := fun vs H Q E => ∃ (p m : Addr) (i : Int), vs = [.ref p, .int i, .ref m] ∧ ((i = -1 ∧ spFlush C CP [.ref p] H Q E) ∨ (i ≠ -1 ∧ spWrite K C CO CP [.ref p, .int i, .ref m] H Q E))
theorem ok_law_do_raw {CDisk COutOfRange CPowerCut CKeepError : Addr} {f : Addr} {fd : FuncData} (A : All P K mg CDisk COutOfRange CPowerCut CKeepError) (F : Fun K "_law_do_raw" "_law_do_raw" s_law_do_raw f fd) : FnOk P w K mg base (L2.CX P w) 5 f fd ["disk", "at", "block"] (spDo K CDisk COutOfRange CPowerCut) := by
  obtain ⟨f_Disk_write, fd_Disk_write, F_Disk_write, m_Disk_write, b_Disk_write⟩ := A.Disk_write
  have G_Disk_write := ok_Disk_write (P := P) (w := w) (base := base) A F_Disk_write
  obtain ⟨f_Disk_flush, fd_Disk_flush, F_Disk_flush, m_Disk_flush, b_Disk_flush⟩ := A.Disk_flush
  have G_Disk_flush := ok_Disk_flush (P := P) (w := w) (base := base) A F_Disk_flush
  refine F.okX sc_law_do_raw (fun vs H Q E h => ?_) (fun cdv A' outer s H vs Q E hr h => ?_)
  · obtain ⟨p, m, i, rfl, _⟩ := h
    rfl
  · obtain ⟨p, m, i, rfl, h⟩ := h
    refine ⟨_, (pss_cons (ps_if (pt_cmpR op_eq (pv 1) (pe_op op_sub pe_int pe_int) (nomark _))
(pss_one (ps_ret (pe_meth0 (pv 0) A.cDisk m_Disk_flush G_Disk_flush (hr.mono (by decide)) b_Disk_flush .nil (passes_call (takes_of rfl rfl rfl rfl) (fun _ _ _ _ h => h)))))
pss_nil)
(pss_one (ps_ret (pe_meth (pv 0) A.cDisk m_Disk_write G_Disk_write (hr.mono (by decide)) b_Disk_write .nil (passes_call (takes_of rfl rfl rfl rfl) (fun _ _ _ _ h => h)) (pa_cons (pv 1) (pa_cons (pv 2) pa_nil)))))), ?_⟩
    refine ⟨_, rfl, _, _, rfl, rfl, rfl, _, rfl, ?_⟩
    rcases h with ⟨rfl, h⟩ | ⟨ne, h⟩
    · refine ite2 (fun _ => ?_) (fun z => absurd (decide_eq_true rfl) z)
      obtain ⟨L, p', as, x, e, AT, rest⟩ := id h
      cases e
      obtain ⟨dx, fs, hi, hn⟩ := at_ins AT (m := "flush") (by decide +kernel)
      exact ⟨_, rfl, _, dx, fs, rfl, hi, hn, h⟩
    · refine ite2 (fun z => absurd (V.int.inj (of_decide_eq_true z)) (by omega)) (fun _ => ?_)
      obtain ⟨L, p', m', as, x, i', r, e, AT, rest⟩ := id h
      cases e
      obtain ⟨dx, fs, hi, hn⟩ := at_ins AT (m := "write") (by decide +kernel)
      exact ⟨_, rfl, _, dx, fs, rfl, hi, hn, _, rfl, _, rfl, h⟩
theorem Rz.mono {CO : Addr} {z : Str} {H : Hp} {E E' : XK} (h : Rz CO z H E) (k : ∀ c d H', E c d H' → E' c d H') : Rz CO z H E' := fun d H' s n e => k _ _ _ (h d H' s n e)
theorem do_mono {K : PySem.W.Frag} {C CO CP : Addr} {vs : List V} {H : Hp} {Q Q' : VK} {E E' : XK} (h : spDo K C CO CP vs H Q E) (kq : ∀ v H', Q v H' → Q' v H') (ke : ∀ c d H', E c d H' → E' c d H') : spDo K C CO CP vs H Q' E' := by
  obtain ⟨p, m, i, rfl, h⟩ := h
  refine ⟨p, m, i, rfl, ?_⟩
  rcases h with ⟨rfl, L, p', as, x, e, AT, tl, q1, q2⟩ | ⟨ne, L, p', m, as, x, i, r, e, AT, h1, h2, h3, h4, h5, q1, q2, q3, q4⟩
  · exact .inl ⟨rfl, L, p', as, x, e, AT, tl, fun a H' L' s A => kq _ _ (q1 a H' L' s A), fun a H' L' s A => ke _ _ _ (q2 a H' L' s A)⟩
  · exact .inr ⟨ne, L, p', m, as, x, i, r, e, AT, h1, h2, h3, h4, h5, fun a => (q1 a).mono ke, fun a b => (q2 a b).mono ke, fun a b c H' L' s A => kq _ _ (q3 a b c H' L' s A), fun a b c H' L' s A => ke _ _ _ (q4 a b c H' L' s A)⟩
/-- what is told of an error, or of a cut -/
def TldC (CO CP : Addr) (Q : VK) : XK := fun cls d H => TldO CO Q cls d H ∨ (cls = .ref CP ∧ d = none ∧ ∀ t, H t = none → Q (.ref t) (upd H t (.tup [.str "refused", .str "cut"])))
def spLDo (K : PySem.W.Frag) (C CO CP : Addr) : Sp := fun vs H Q _ => spDo K C CO CP vs H Q (TldC CO CP Q)
/-- the suite for a cut -/
def tSuC (CP a : Addr) (cls : Value) (d : Option Addr) : TS := fun D σ H => cls = .ref CP ∧ d = none ∧ tVar 4 σ H (fun v _ => v = .ref a) ∧ tRet (tTup (tCons (tC (.str "refused")) (tCons (tC (.str "cut")) tNil))) D σ H
theorem ok_law_do {CDisk COutOfRange CPowerCut CKeepError : Addr} {f : Addr} {fd : FuncData} (A : All P K mg CDisk COutOfRange CPowerCut CKeepError) (F : Fun K "_law_do" "_law_do" s_law_do f fd) : FnOk P w K mg base CX0 6 f fd ["disk", "at", "block"] (spLDo K CDisk COutOfRange CPowerCut) := by
  obtain ⟨f_law_do_raw, fd_law_do_raw, F_law_do_raw, g_law_do_raw, b_law_do_raw⟩ := A.law_do_raw
  have G_law_do_raw := ok_law_do_raw (P := P) (w := w) (base := base) A F_law_do_raw
  refine F.ok sc_law_do (fun vs H Q E h => ?_) (fun cdv A' outer s H vs Q E hr h => ?_)
  · obtain ⟨p, m, i, rfl, _⟩ := h
    rfl
  · obtain ⟨p, m, i, rfl, _⟩ := id h
    let sp_raw := spDo K CDisk COutOfRange CPowerCut
    refine ⟨_, (pss_cons (ps_try_mix (tb := fun W => tAsg (tCallS sp_raw (WE W) (tCons (tVar 0) (tCons (tVar 1) (tCons (tVar 2) tNil)))) (gName 3)) (Wout := fun _ _ _ _ => False) (l := [(.ref CPowerCut, some 4, (fun a cls d => tSuC CPowerCut a cls d)), (.ref COutOfRange, some 4, (fun a cls d => tRet (tTup (tCons (tC (.str "refused")) (tCons (tErrF K "name" a cls d (tVar 4)) tNil)))))]) rfl rfl sc_law_do.nd takes0 (fun W pn xe tk _ => pss_one (ps_set (i := 3) sc_law_do.nd rfl (.inl rfl) (pe_callS G_law_do_raw (hr.mono (by decide)) (by rfl) g_law_do_raw F_law_do_raw.kp b_law_do_raw (fun σ => passAt tk σ) (pa_cons (pv 0) (pa_cons (pv 1) (pa_cons (pv 2) pa_nil)))))) (.named ⟨rfl, by decide, .inl A.xPowerCut.g⟩ rfl rfl (fun a oe cls d pn hz hf => ⟨fun pins s σ H D I h => ?_⟩) (.named ⟨rfl, by decide, .inl A.xOutOfRange.g⟩ rfl rfl (fun a oe cls d pn hz hf => pss_one (ps_ret (pe_tup (pa_cons pe_str (pa_cons (pe_errf hz hf (pv 4)) pa_nil))))) .nil)))
(pss_one (ps_ret (pv 3)))), ?_⟩
    · obtain ⟨rfl, rfl, ⟨v, hv, rfl⟩, h⟩ := h
      refine (pss_cons (ps_if (PW.pt (pw_and (pt_val (pe_callB (call_isE A.yPowerCut hz hf) (by rfl) A.isinstance (by decide +kernel) (pa_cons (pv 4) (pa_cons (pe_glob (v := .ref CKeepError) (u := .ref CKeepError) (by rfl) A.gKeepError rfl) pa_nil)))) (pw_and1 (pt_not (pt_val (pe_callB (call_isE A.yPowerCut hz hf) (by rfl) A.isinstance (by decide +kernel) (pa_cons (pv 4) (pa_cons (pe_glob (v := .ref COutOfRange) (u := .ref COutOfRange) (by rfl) A.xOutOfRange.g rfl) pa_nil))))))))
        (pss_one (ps_ret (pe_tup (pa_cons pe_str (pa_cons pe_str pa_nil))))) pss_nil) (pss_one (ps_ret (pe_tup (pa_cons pe_str (pa_cons pe_str pa_nil)))))).run pins s σ H D I ?_
      refine ⟨_, hv, .ref CKeepError, .ref CKeepError, true, rfl, fun u hu => hu, A.kPowerCutKeepError, _, rfl, iteT ?_⟩
      exact ⟨_, hv, .ref COutOfRange, .ref COutOfRange, false, rfl, fun u hu => hu, A.kPowerCutOutOfRange, _, rfl, iteT h⟩
    refine ⟨_, rfl, _, rfl, _, rfl, do_mono h (fun v H' q => ⟨_, rfl, q⟩) fun c d H' z => ?_⟩
    rcases z with ⟨ec, dd, z, ed, hd, q⟩ | ⟨ec, ed, q⟩
    · refine ⟨false, by rw [ec]; exact A.eOutOfRangePowerCut, (fun z => nomatch z), fun _ => ?_⟩
      refine ⟨true, by rw [ec]; exact A.eOutOfRangeOutOfRange, fun _ a na => ?_, fun z => nomatch z⟩
      exact ⟨_, rfl, rfl, COutOfRange, dd, _, .str z, ec, A.xOutOfRange.err, ed, hd, rfl, (by show 2 ≤ sizeLine; decide), fun t nt => q t nt⟩
    · refine ⟨true, by rw [ec]; exact A.ePowerCutPowerCut, fun _ a na => ?_, fun z => nomatch z⟩
      exact ⟨ec, ed, ⟨_, rfl, rfl⟩, (by show 2 ≤ sizeLine; decide), fun t nt => q t nt⟩
end
end K41
set_option Elab.async false
set_option linter.all false
set_option maxRecDepth 100000
set_option maxHeartbeats 8000000
/-! K42j: the law. -/
namespace K41
open PySem PySem.Spec PyProof.Rows L2 Gd Com Bk Nw Xs Dk
section
variable {P : Program} {w : World} {K : PySem.W.Frag} {mg : Str → Option Value} {base : Heap}
theorem Wd.out {C : Addr} {H : Hp} {b dg : Addr} {ds : List Int} {L M : Addr → Prop} {p : Addr} {ps : List Addr} {x : Dk.St} {B U : Addr} {bs : List (List Int)} {ws : List (Nat × List Int)} (W : Wd C H b dg ds L M p ps x B U bs ws) {a : Addr} {o : HO} (n : ¬ L a ∧ ¬ M a ∧ a ≠ b ∧ a ≠ dg) : Wd C (upd H a o) b dg ds L M p ps x B U bs ws := by
  obtain ⟨n1, n2, n3, n4⟩ := n
  have kp : ∀ {c : Addr} {u : HO}, c ≠ a → H c = some u → upd H a o c = some u := fun {c u} m h => by
    rw [upd_ne m]
    exact h
  obtain ⟨k, e1, e2⟩ := W.bx
  refine ⟨⟨k, kp (Ne.symm n3) e1, kp (Ne.symm n4) e2⟩, W.at_.keep fun c u l h => kp (fun z => n1 (by rw [← z]; exact l)) h, W.own.keep fun c u m h => kp (fun z => n2 (by rw [← z]; exact m)) h, W.ml, fun c m z => ?_, W.nb, W.nd⟩
  by_cases e : c = a
  · exact n2 (by rw [← e]; exact m)
  · rw [upd_ne e] at z
    exact W.mh c m z
theorem newW {C : Addr} {H : Hp} {b dg : Addr} {ds : List Int} {L M : Addr → Prop} {p : Addr} {ps : List Addr} {x : Dk.St} {B U : Addr} {bs : List (List Int)} {ws : List (Nat × List Int)} (W : Wd C H b dg ds L M p ps x B U bs ws) {u : Addr} (nu : H u = none) : Wd C (upd H u (.lst [])) b dg ds L (fun c => M c ∨ c = u) p ps x B u bs [] := by
  have fu := W.free nu
  obtain ⟨as, gs, O⟩ := (W.same (same_new (o := .lst []) (Same.refl H) nu)).own
  have W2 := (W.same (same_new (o := .lst []) (Same.refl H) nu)).take (a := u) (by rw [upd_same]; exact fun z => nomatch z) fu.1 fu.2.2.1 fu.2.2.2
  exact W2.rest ⟨as, [], (O.more fun _ m => .inl m).clear upd_same (.inr rfl) (fun z => fu.2.1 (by rw [z]; exact O.mB)) (fun z => fu.2.1 (O.ma _ z))⟩
theorem sq_fx {K : PySem.W.Frag} {H H' : Hp} {a b : Addr} {xs : List V} (h : SqL K H a xs) (nb : H b = none) (f : Fx b H H') : SqL K H' a xs := by
  have go : ∀ {o : HO}, H a = some o → H' a = some o := fun {o} e => f a o (fun z => by rw [z, nb] at e; cases e) e
  rcases h with (h | ⟨o, h⟩) | h
  · exact .inl (.inl (go h))
  · exact .inl (.inr ⟨o, go h⟩)
  · exact .inr h
theorem fold_len : ∀ (w : List (Nat × List Int)) (bs : List (List Int)), (w.foldl (fun c e => c.set e.1 e.2) bs).length = bs.length
  | [], _ => rfl
  | e :: w, bs => by
    rw [List.foldl_cons, fold_len w, List.length_set]
def refD (z : Str) : PyData := .tuple [.str "refused", .str z]
theorem ref_ne {K : PySem.W.Frag} {H : Hp} {t t2 : Addr} {z : Str} (h1 : H t = some (.tup [.str "refused", .str z])) (n : H t2 = none) (hz : SeqAt.shaped (refD z) = true) {Q : VK} (q : Q (.bl false) (upd H t2 (.tup [.str "refused", .str z]))) :
    rNeD K (.ref t) (.ref t2) (upd H t2 (.tup [.str "refused", .str z])) Q := by
  have g1 := (same_new (o := .tup [.str "refused", .str z]) (Same.refl H) n) _ _ h1
  have e : PyData.eqv (refD z) (refD z) = true := SeqAt.eqv_refl _ (Bk.shaped_lay hz)
  refine ⟨refD z, refD z, .tup (SqT.of g1) (.cons (.str _) (.cons (.str _) .nil)), .tup (SqT.of upd_same) (.cons (.str _) (.cons (.str _) .nil)), hz, hz, ?_⟩
  rw [e]
  exact q
theorem ref_eq {K : PySem.W.Frag} {H : Hp} {t t2 : Addr} {z : Str} (h1 : H t = some (.tup [.str "refused", .str z])) (n : H t2 = none) (hz : SeqAt.shaped (refD z) = true) {Q : VK} (q : Q (.bl true) (upd H t2 (.tup [.str "refused", .str z]))) :
    rEqD K (.ref t) (.ref t2) (upd H t2 (.tup [.str "refused", .str z])) Q := by
  have g1 := (same_new (o := .tup [.str "refused", .str z]) (Same.refl H) n) _ _ h1
  have e : PyData.eqv (refD z) (refD z) = true := SeqAt.eqv_refl _ (Bk.shaped_lay hz)
  refine ⟨refD z, refD z, .tup (SqT.of g1) (.cons (.str _) (.cons (.str _) .nil)), .tup (SqT.of upd_same) (.cons (.str _) (.cons (.str _) .nil)), hz, hz, ?_⟩
  rw [e]
  exact q
/-- what follows a refusal -/
def Ref (H : Hp) (z : Str) (Q : VK) : Prop := ∀ (t : Addr) (H1 : Hp), Same H H1 → H1 t = some (.tup [.str "refused", .str z]) → Q (.ref t) H1
theorem told_go {CO : Addr} {z : Str} {H : Hp} {Q : VK} (q : Ref H z Q) : Rz CO z H (TldO CO Q) := fun d H' s n e => ⟨rfl, d, z, rfl, e, fun t nt => q t _ (same_new s nt) upd_same⟩
/-- a place of the law's own that stays as it is -/
structure Tn (H : Hp) (L M : Addr → Prop) (b dg T : Addr) (o : HO) : Prop where
  h : H T = some o
  nl : ¬ L T
  nm : ¬ M T
  nb : T ≠ b
  nd : T ≠ dg
section
variable {H H' : Hp} {L L' M : Addr → Prop} {b dg T : Addr} {o : HO}
theorem Tn.same (t : Tn H L M b dg T o) (s : Same H H') : Tn H' L M b dg T o := ⟨s _ _ t.h, t.nl, t.nm, t.nb, t.nd⟩
theorem Tn.draw (t : Tn H L M b dg T o) (f : Fx b H H') : Tn H' L M b dg T o := ⟨f _ _ t.nb t.h, t.nl, t.nm, t.nb, t.nd⟩
theorem Tn.disk (t : Tn H L M b dg T o) (s : Stp H H' L L') : Tn H' L' M b dg T o := ⟨s.keep _ _ t.nl t.h, fun z => (s.new T z).elim t.nl (fun e => by rw [t.h] at e; cases e), t.nm, t.nb, t.nd⟩
theorem Tn.upd (t : Tn H L M b dg T o) {a : Addr} {u : HO} (n : T ≠ a) : Tn (upd H a u) L M b dg T o := ⟨by rw [upd_ne n]; exact t.h, t.nl, t.nm, t.nb, t.nd⟩
theorem Tn.more (t : Tn H L M b dg T o) {a : Addr} (n : T ≠ a) : Tn H L (fun c => M c ∨ c = a) b dg T o := ⟨t.h, t.nl, fun z => z.elim t.nm n, t.nb, t.nd⟩
theorem Tn.ne (t : Tn H L M b dg T o) {a : Addr} (n : H a = none) : T ≠ a := ne_of_none t.h n
end
theorem Wd.tn {C : Addr} {H : Hp} {b dg : Addr} {ds : List Int} {L M : Addr → Prop} {p : Addr} {ps : List Addr} {x : Dk.St} {B U : Addr} {bs : List (List Int)} {ws : List (Nat × List Int)} (W : Wd C H b dg ds L M p ps x B U bs ws) {a : Addr} {o : HO} (h : H a = none) : Tn (upd H a o) L M b dg a o := by
  have n := W.free h
  exact ⟨upd_same, n.1, n.2.1, n.2.2.1, n.2.2.2⟩
theorem Wd.newTn {C : Addr} {H H' : Hp} {b dg : Addr} {ds : List Int} {L M : Addr → Prop} {p : Addr} {ps : List Addr} {x : Dk.St} {B U : Addr} {bs : List (List Int)} {ws : List (Nat × List Int)} (W : Wd C H b dg ds L M p ps x B U bs ws) {a : Addr} {o : HO} (h : H a = none) (e : H' a = some o) : Tn H' L M b dg a o := by
  have n := W.free h
  exact ⟨e, n.1, n.2.1, n.2.2.1, n.2.2.2⟩
def lv : Option Nat → Int
  | none => -1
  | some k => (k : Int)
def inV (l : List Nat) : List V := l.map fun k : Nat => V.int (k : Int)
theorem lv_ne {l : Option Nat} (h : l ≠ some 0) : lv l ≠ 0 := by
  cases l with
  | none => show (-1 : Int) ≠ 0; decide
  | some k =>
    show (k : Int) ≠ 0
    intro z
    exact h (by congr 1; omega)
theorem lv_dec {x : Dk.St} (h : lv x.left > 0) : lv (St.down x).left = lv x.left - 1 := by
  unfold St.down
  cases e : x.left with
  | none =>
    rw [e] at h
    exact absurd h (by decide)
  | some k =>
    rw [e] at h
    have h : (k : Int) > 0 := h
    show ((k - 1 : Nat) : Int) = (k : Int) - 1
    omega
theorem lv_stay {x : Dk.St} (h : ¬ lv x.left > 0) (n : x.left ≠ some 0) : lv (St.down x).left = lv x.left := by
  unfold St.down
  cases e : x.left with
  | none => rw [e]
  | some k =>
    rw [e] at h n
    have h : ¬ (k : Int) > 0 := h
    exact absurd (by congr 1; omega) n
theorem rows_v {H : Hp} : ∀ {bs : List (List Int)} {as : List Addr}, Paired (fun r a => H a = some (.lst (r.map V.int))) bs as → Paired (fun r v => ∃ a, v = .ref a ∧ H a = some (.lst (r.map V.int))) bs (as.map V.ref)
  | _, _, .nil => .nil
  | _, _, .cons e t => .cons ⟨_, rfl, e⟩ (rows_v t)
theorem storeB_none : ∀ (w : List (Nat × List Int)) (bs : List (List Int)), storeB bs w [] = bs
  | [], _ => rfl
  | _ :: _, _ => rfl
/-- σ while the law goes on -/
def Ls (C a b dg p : Addr) (ds : List Int) (n m : Nat) (σ : L2.St) (H : Hp) : Prop := ∃ (v4 v10 v11 v12 v13 v14 v15 v16 v17 : Option V) (L M : Addr → Prop) (ps : List Addr) (x : Dk.St) (B U T : Addr),
  σ = [some (.ref a), some (.ref b), some (.int (n : Int)), some (.ref p), v4, some (.ref B), some (.ref U), some (.int (lv x.left)), some (.ref T), some (.int (x.cuts : Int)), v10, v11, v12, v13, v14, v15, v16, v17] ∧
  Wd C H b dg ds L M p ps x B U x.blocks x.wait ∧ x.blocks.length = n ∧ Tn H L M b dg T (.lst (inV x.torn)) ∧ x.torn.length ≤ 9 ∧ x.wait.length ≤ m
theorem ints_of {ks : List Int} (h : ∀ k ∈ ks, 0 ≤ k ∧ k ≤ 32) : ks.map V.int = inV (ks.map Int.toNat) := nats_of h
section
variable {C CO CP : Addr} {H : Hp} {L : Addr → Prop} {p c : Addr} {as : List Addr} {x : Dk.St} {r ks : List Int} {i : Int} {Q : VK} {E : XK}
theorem do_at (A : At C H L p as x) (h : H c = some (.lst (r.map V.int))) (l : r.length ≤ 1000) (n : ¬ L c) (tl : x.torn.length ≤ 2000) (wl : x.wait.length ≤ 900) (no : ¬ (0 ≤ i ∧ i < (x.blocks.length : Int))) (ni : i ≠ -1) (q : Ref H "at" Q) : spLDo K C CO CP [.ref p, .int i, .ref c] H Q E :=
  ⟨p, c, i, rfl, .inr ⟨ni, L, p, c, as, x, i, r, rfl, A, SqL.of h, l, n, tl, wl, fun _ => (told_go q).mono fun _ _ _ z => .inl z, fun z => absurd z no, fun z => absurd z no, fun z => absurd z no⟩⟩
theorem do_block (A : At C H L p as x) (h : H c = some (.lst (r.map V.int))) (l : r.length ≤ 1000) (n : ¬ L c) (tl : x.torn.length ≤ 2000) (wl : x.wait.length ≤ 900) (ok : 0 ≤ i ∧ i < (x.blocks.length : Int)) (bad : ¬ (r.length = 32 ∧ ∀ k ∈ r, 0 ≤ k ∧ k ≤ 255)) (q : Ref H "block" Q) : spLDo K C CO CP [.ref p, .int i, .ref c] H Q E :=
  ⟨p, c, i, rfl, .inr ⟨by omega, L, p, c, as, x, i, r, rfl, A, SqL.of h, l, n, tl, wl, fun z => absurd ok z, fun _ _ => (told_go q).mono fun _ _ _ z => .inl z, fun _ z => absurd z bad, fun _ z => absurd z bad⟩⟩
theorem do_go (A : At C H L p as x) (h : H c = some (.lst (r.map V.int))) (l : r.length ≤ 1000) (n : ¬ L c) (tl : x.torn.length ≤ 2000) (wl : x.wait.length ≤ 900) (ok : i = -1 ∨ (0 ≤ i ∧ i < (x.blocks.length : Int))) (good : r.length = 32 ∧ ∀ k ∈ r, 0 ≤ k ∧ k ≤ 255)
    (q0 : x.left = some 0 → ∀ (H' : Hp) (L' : Addr → Prop), Stp H H' L L' → At C H' L' p as (x.cut x.torn) → ∀ t, H' t = none → Q (.ref t) (upd H' t (.tup [.str "refused", .str "cut"])))
    (q1 : x.left ≠ some 0 → i = -1 → ∀ (H' : Hp) (L' : Addr → Prop), Stp H H' L L' → At C H' L' p as (St.down x).full → Q .non H')
    (q2 : x.left ≠ some 0 → i ≠ -1 → ∀ (H' : Hp) (L' : Addr → Prop), Stp H H' L L' → At C H' L' p as { St.down x with wait := x.wait ++ [(i.toNat, r)] } → Q .non H') : spLDo K C CO CP [.ref p, .int i, .ref c] H Q E := by
  by_cases e : i = -1
  · exact ⟨p, c, i, rfl, .inl ⟨e, L, p, as, x, rfl, A, tl, fun nz H' L' s A' => q1 nz e H' L' s A', fun z H' L' s A' => .inr ⟨rfl, rfl, fun t nt => q0 z H' L' s A' t nt⟩⟩⟩
  · have ok : 0 ≤ i ∧ i < (x.blocks.length : Int) := ok.resolve_left e
    exact ⟨p, c, i, rfl, .inr ⟨e, L, p, c, as, x, i, r, rfl, A, SqL.of h, l, n, tl, wl, fun z => absurd ok z, fun _ z => absurd good z, fun _ _ nz H' L' s A' => q2 nz e H' L' s A', fun _ _ z H' L' s A' => .inr ⟨rfl, rfl, fun t nt => q0 z H' L' s A' t nt⟩⟩⟩
theorem sc_go (A : At C H L p as x) (h : H c = some (.lst (ks.map V.int))) (n : ¬ L c) (l : ks.length ≤ 1000) (ok : 0 ≤ i ∧ i ≤ 100000) (ok2 : ∀ k ∈ ks, 0 ≤ k ∧ k ≤ 32)
    (q : ∀ (H' : Hp) (L' : Addr → Prop), Stp H H' L L' → At C H' L' p as { x with left := some i.toNat, torn := ks.map Int.toNat } → Q .non H') : spLSched K C CO [.ref p, .int i, .ref c] H Q E :=
  ⟨L, p, c, as, x, i, ks, rfl, A, SqL.of h, n, l, fun z => absurd ok z, fun _ z => absurd ok2 z, fun _ _ => q⟩
theorem sc_many (A : At C H L p as x) (h : H c = some (.lst (ks.map V.int))) (n : ¬ L c) (l : ks.length ≤ 1000) (no : ¬ (0 ≤ i ∧ i ≤ 100000)) (q : Ref H "many" Q) : spLSched K C CO [.ref p, .int i, .ref c] H Q E :=
  ⟨L, p, c, as, x, i, ks, rfl, A, SqL.of h, n, l, fun _ => told_go q, fun z => absurd z no, fun z => absurd z no⟩
theorem sc_torn (A : At C H L p as x) (h : H c = some (.lst (ks.map V.int))) (n : ¬ L c) (l : ks.length ≤ 1000) (ok : 0 ≤ i ∧ i ≤ 100000) (no : ¬ (∀ k ∈ ks, 0 ≤ k ∧ k ≤ 32)) (q : Ref H "torn" Q) : spLSched K C CO [.ref p, .int i, .ref c] H Q E :=
  ⟨L, p, c, as, x, i, ks, rfl, A, SqL.of h, n, l, fun z => absurd ok z, fun _ _ => told_go q, fun _ z => absurd z no⟩
end
theorem pickM {r : Int} (h0 : 0 ≤ r) (h1 : r < 2) : ∃ i : Int, atI [V.int (0 - 1), V.int 100001] r = some (.int i) ∧ ¬ (0 ≤ i ∧ i ≤ 100000) := by
  obtain rfl | rfl : r = 0 ∨ r = 1 := by omega
  · exact ⟨_, rfl, by omega⟩
  · exact ⟨_, rfl, by omega⟩
def spLaw (K : PySem.W.Frag) : Sp := fun vs H Q _ => ∃ (a : Addr) (ns : List Int), vs = [.ref a] ∧ SqL K H a (ns.map V.int) ∧ ns.length ≤ 63 ∧ ∀ H', Q (.bl true) H'
theorem ok_law {CDisk COutOfRange CPowerCut CKeepError : Addr} {f : Addr} {fd : FuncData} (A : All P K mg CDisk COutOfRange CPowerCut CKeepError) (F : Fun K "law" "law" s_law f fd) : FnG P w K mg base 9 f fd ["script"] (spLaw K) := by
  obtain ⟨f_Disk_cut_power, fd_Disk_cut_power, F_Disk_cut_power, m_Disk_cut_power, b_Disk_cut_power⟩ := A.Disk_cut_power
  have G_Disk_cut_power := ok_Disk_cut_power (P := P) (w := w) (base := base) A F_Disk_cut_power
  obtain ⟨f_Disk___init__, fd_Disk___init__, F_Disk___init__, M_Disk, b_Disk___init__⟩ := A.Disk___init__
  have G_Disk___init__ := ok_Disk___init__ (P := P) (w := w) (base := base) A F_Disk___init__
  obtain ⟨f_law_digits, fd_law_digits, F_law_digits, g_law_digits, b_law_digits⟩ := A.law_digits
  have G_law_digits := ok_law_digits (P := P) (w := w) (base := base) A F_law_digits
  obtain ⟨f_law_draw, fd_law_draw, F_law_draw, g_law_draw, b_law_draw⟩ := A.law_draw
  have G_law_draw := ok_law_draw (P := P) (w := w) (base := base) A F_law_draw
  obtain ⟨f_Disk_read, fd_Disk_read, F_Disk_read, m_Disk_read, b_Disk_read⟩ := A.Disk_read
  have G_Disk_read := ok_Disk_read (P := P) (w := w) (base := base) A F_Disk_read
  obtain ⟨f_law_torn, fd_law_torn, F_law_torn, g_law_torn, b_law_torn⟩ := A.law_torn
  have G_law_torn := ok_law_torn (P := P) (w := w) (base := base) A F_law_torn
  obtain ⟨f_Disk_pending_count, fd_Disk_pending_count, F_Disk_pending_count, m_Disk_pending_count, b_Disk_pending_count⟩ := A.Disk_pending_count
  have G_Disk_pending_count := ok_Disk_pending_count (P := P) (w := w) (base := base) A F_Disk_pending_count
  obtain ⟨f_Disk_cut_count, fd_Disk_cut_count, F_Disk_cut_count, m_Disk_cut_count, b_Disk_cut_count⟩ := A.Disk_cut_count
  have G_Disk_cut_count := ok_Disk_cut_count (P := P) (w := w) (base := base) A F_Disk_cut_count
  obtain ⟨f_law_schedule, fd_law_schedule, F_law_schedule, g_law_schedule, b_law_schedule⟩ := A.law_schedule
  have G_law_schedule := ok_law_schedule (P := P) (w := w) (base := base) A F_law_schedule
  obtain ⟨f_law_do, fd_law_do, F_law_do, g_law_do, b_law_do⟩ := A.law_do
  have G_law_do := ok_law_do (P := P) (w := w) (base := base) A F_law_do
  refine fn_G F sc_law (fun vs H Q E h => ?_) (fun cdv A' outer s0 H vs Q E hgd hr h => ?_)
  · obtain ⟨a, ns, rfl, _⟩ := h
    rfl
  · obtain ⟨a, ns, rfl, hS, hlen, q⟩ := h
    have hu64 := hr.units
    refine ⟨_, (pss_cons (ps_set (i := 1) sc_law.nd rfl (.inr rfl) (pe_lst (pa_cons (pe_call G_law_digits (hr.mono (by decide)) (by rfl) g_law_digits F_law_digits.kp b_law_digits .nil pass0 (pa_cons (pv 0) (pa_cons pe_int (pa_cons pe_int pa_nil)))) (pa_cons pe_int pa_nil))))
(pss_cons (ps_set (i := 2) sc_law.nd rfl (.inl rfl) (pe_op op_add pe_int (pe_call G_law_draw (hr.mono (by decide)) (by rfl) g_law_draw F_law_draw.kp b_law_draw .nil pass0 (pa_cons (pv 1) (pa_cons pe_int pa_nil)))))
(pss_cons (ps_set (i := 3) sc_law.nd rfl (.inr rfl) (pe_make M_Disk G_Disk___init__ (hr.mono (by decide)) (by rfl) A.gDisk b_Disk___init__ .nil passN (pa_cons (pv 2) pa_nil)))
(pss_cons (ps_setLc (i := 5) (own := [("k", 4)]) (tt := tYes) rfl sc_law.nd rfl rfl (sw_true rfl rfl rfl (by decide +kernel)) (pi_range1 (by rfl) A.range (pa_cons (pv 2) pa_nil)) (blkOk_by (N := ["script", "box", "size", "disk", "k", "blocks", "pending", "left", "torn", "cuts", "turn", "kind", "handed", "at", "block", "actual", "place", "entry"]) (sc := defScope s_law) (by decide +kernel)) (fun _ _ _ _ _ => pg_name (i := 4) sc_law.nd rfl (Or.inl rfl)) (fun _ _ _ _ _ => pts_nil) (fun _ _ _ _ _ => (pe_op op_rep (pe_lst (pa_cons pe_int pa_nil)) pe_int)))
(pss_cons (ps_set (i := 6) sc_law.nd rfl (.inl rfl) (pe_lst pa_nil))
(pss_cons (ps_set (i := 7) sc_law.nd rfl (.inl rfl) (pe_op op_sub pe_int pe_int))
(pss_cons (ps_set (i := 8) sc_law.nd rfl (.inl rfl) (pe_lst pa_nil))
(pss_cons (ps_set (i := 9) sc_law.nd rfl (.inl rfl) pe_int)
(pss_cons (ps_for PassesOwn.never rfl (pi_range1 (by rfl) A.range (pa_cons pe_int pa_nil)) (pg_name (i := 10) sc_law.nd rfl (.inl rfl))
(pss_cons (ps_set (i := 11) sc_law.nd rfl (.inl rfl) (pe_call G_law_draw (hr.mono (by decide)) (by rfl) g_law_draw F_law_draw.kp b_law_draw .nil pass0 (pa_cons (pv 1) (pa_cons pe_int pa_nil))))
(Evl.pss_cut (ps_if (PW.pt (pw_or (pt_cmpR op_eq (pv 11) pe_int (nomark _)) (pw_or1 (pt_cmpR op_eq (pv 10) pe_int (nomark _)))))
(pss_cons (ps_set (i := 7) sc_law.nd rfl (.inl rfl) (pe_call G_law_draw (hr.mono (by decide)) (by rfl) g_law_draw F_law_draw.kp b_law_draw .nil pass0 (pa_cons (pv 1) (pa_cons pe_int pa_nil))))
(pss_cons (ps_set (i := 8) sc_law.nd rfl (.inl rfl) (pe_call G_law_torn (hr.mono (by decide)) (by rfl) g_law_torn F_law_torn.kp b_law_torn .nil pass0 (pa_cons (pv 1) (pa_cons pe_int pa_nil))))
(pss_cons (ps_set (i := 12) sc_law.nd rfl (.inl rfl) (pe_callTy call_list_of (by rfl) A.list (by decide +kernel) (pa_cons (pv 8) pa_nil)))
(pss_cons (ps_if (PW.pt (pw_or (pt_cmp (pc_notN (pe_call G_law_schedule (hr.mono (by decide)) (by rfl) g_law_schedule F_law_schedule.kp b_law_schedule .nil pass0 (pa_cons (pv 3) (pa_cons pe_int (pa_cons (pe_lst (pa_cons pe_int pa_nil)) pa_nil)))))) (pw_or1 (pt_cmp (pc_notN (pe_call G_law_schedule (hr.mono (by decide)) (by rfl) g_law_schedule F_law_schedule.kp b_law_schedule .nil pass0 (pa_cons (pv 3) (pa_cons (pv 7) (pa_cons (pv 12) pa_nil)))))))))
(pss_one (ps_ret pe_bl))
pss_nil)
(pss_cons (ps_expr (pe_bm PySem.F.plainAttrs_list PySem.F.slot_list_append PySem.F.type_list_append mt_append (pv 12) (pa_cons pe_int pa_nil)))
(pss_cons (ps_if (pt_cmpR (op_neD (by exact hu64)) (pe_call G_law_schedule (hr.mono (by decide)) (by rfl) g_law_schedule F_law_schedule.kp b_law_schedule .nil pass0 (pa_cons (pv 3) (pa_cons (pe_ix ix_list (pe_lst (pa_cons (pe_op op_sub pe_int pe_int) (pa_cons pe_int pa_nil))) (pe_call G_law_draw (hr.mono (by decide)) (by rfl) g_law_draw F_law_draw.kp b_law_draw .nil pass0 (pa_cons (pv 1) (pa_cons pe_int pa_nil))) (fun _ _ => rfl)) (pa_cons (pe_lst (pa_cons pe_int pa_nil)) pa_nil)))) (pe_tup (pa_cons pe_str (pa_cons pe_str pa_nil))) (nomark _))
(pss_one (ps_ret pe_bl))
pss_nil)
(pss_one (ps_if (pt_cmpR (op_neD (by exact hu64)) (pe_call G_law_schedule (hr.mono (by decide)) (by rfl) g_law_schedule F_law_schedule.kp b_law_schedule .nil pass0 (pa_cons (pv 3) (pa_cons pe_int (pa_cons (pe_lst (pa_cons pe_int pa_nil)) pa_nil)))) (pe_tup (pa_cons pe_str (pa_cons pe_str pa_nil))) (nomark _))
(pss_one (ps_ret pe_bl))
pss_nil))))))))
(pss_one (ps_if (PW.pt (pw_and (pt_cmpR op_eq (pv 11) pe_int (nomark _)) (pw_and1 (pt_cmpR op_eq (pe_call G_law_draw (hr.mono (by decide)) (by rfl) g_law_draw F_law_draw.kp b_law_draw .nil pass0 (pa_cons (pv 1) (pa_cons pe_int pa_nil))) pe_int (nomark _)))))
(pss_cons (ps_expr (pe_meth (pv 3) A.cDisk m_Disk_cut_power G_Disk_cut_power (hr.mono (by decide)) b_Disk_cut_power .nil passN (pa_cons (pe_lst pa_nil) pa_nil)))
(pss_cons (ps_set (i := 6) sc_law.nd rfl (.inl rfl) (pe_lst pa_nil))
(pss_cons (ps_set (i := 7) sc_law.nd rfl (.inl rfl) (pe_op op_sub pe_int pe_int))
(pss_one (ps_set (i := 9) sc_law.nd rfl (.inl rfl) (pe_op op_add (pv 9) pe_int))))))
(pss_one (ps_if (pt_cmpR op_eq (pv 11) pe_int (nomark _))
(pss_one (ps_if (PW.pt (pw_or (pt_cmpR (op_neD (by exact hu64)) (pe_call G_law_do (hr.mono (by decide)) (by rfl) g_law_do F_law_do.kp b_law_do .nil pass0 (pa_cons (pv 3) (pa_cons (pv 2) (pa_cons (pe_op op_rep (pe_lst (pa_cons pe_int pa_nil)) pe_int) pa_nil)))) (pe_tup (pa_cons pe_str (pa_cons pe_str pa_nil))) (nomark _)) (pw_or1 (pt_cmpR (op_neD (by exact hu64)) (pe_call G_law_do (hr.mono (by decide)) (by rfl) g_law_do F_law_do.kp b_law_do .nil pass0 (pa_cons (pv 3) (pa_cons pe_int (pa_cons (pe_op op_rep (pe_lst (pa_cons pe_int pa_nil)) pe_int) pa_nil)))) (pe_tup (pa_cons pe_str (pa_cons pe_str pa_nil))) (nomark _)))))
(pss_one (ps_ret pe_bl))
pss_nil))
(pss_cons (ps_set (i := 13) sc_law.nd rfl (.inl rfl) (pe_op op_sub pe_int pe_int))
(Evl.pss_cut (ps_if (pt_cmpR op_gt (pv 11) pe_int (nomark _))
(pss_one (ps_set (i := 13) sc_law.nd rfl (.inl rfl) (pe_call G_law_draw (hr.mono (by decide)) (by rfl) g_law_draw F_law_draw.kp b_law_draw .nil pass0 (pa_cons (pv 1) (pa_cons (pv 2) pa_nil)))))
pss_nil)
(pss_cons (ps_setLc (i := 14) (own := [("k", 4)]) (tt := tYes) rfl sc_law.nd rfl rfl (sw_true rfl rfl rfl (by decide +kernel)) (pi_range1 (by rfl) A.range (pa_cons pe_int pa_nil)) (blkOk_by (N := ["script", "box", "size", "disk", "k", "blocks", "pending", "left", "torn", "cuts", "turn", "kind", "handed", "at", "block", "actual", "place", "entry"]) (sc := defScope s_law) (by decide +kernel)) (fun _ _ _ _ _ => pg_name (i := 4) sc_law.nd rfl (Or.inl rfl)) (fun _ _ _ _ _ => pts_nil) (fun _ _ _ _ _ => (pe_op op_add pe_int (pe_call G_law_draw (hr.mono (by decide)) (by rfl) g_law_draw F_law_draw.kp b_law_draw .nil pass0 (pa_cons (pv 1) (pa_cons pe_int pa_nil))))))
(pss_cons (ps_set (i := 15) sc_law.nd rfl (.inl rfl) (pe_call G_law_do (hr.mono (by decide)) (by rfl) g_law_do F_law_do.kp b_law_do .nil pass0 (pa_cons (pv 3) (pa_cons (pv 13) (pa_cons (pe_callTy call_list_of (by rfl) A.list (by decide +kernel) (pa_cons (pv 14) pa_nil)) pa_nil)))))
(pss_one (ps_if (pt_cmpR op_eq (pv 7) pe_int (nomark _))
(pss_cons (ps_if (pt_cmpR (op_neD (by exact hu64)) (pv 15) (pe_tup (pa_cons pe_str (pa_cons pe_str pa_nil))) (nomark _))
(pss_one (ps_ret pe_bl))
pss_nil)
(pss_cons (ps_for PassesOwn.never rfl (pi_range1 (by rfl) A.range (pa_cons (pe_callB (call_min2 rfl) (by rfl) A.min (by decide +kernel) (pa_cons (pe_callB call_len_seq (by rfl) A.len PySem.boot_len (pa_cons (pv 8) pa_nil)) (pa_cons (pe_callB call_len_seq (by rfl) A.len PySem.boot_len (pa_cons (pv 6) pa_nil)) pa_nil))) pa_nil)) (pg_name (i := 4) sc_law.nd rfl (.inl rfl))
(pss_cons (ps_set (i := 16) sc_law.nd rfl (.inl rfl) (pe_ix ix_list (pe_ix ix_list (pv 6) (pv 4) (fun _ _ => rfl)) pe_int (fun _ _ => rfl)))
(pss_one (ps_asg (pe_op op_cat (pe_slice sl_list (pe_ix ix_list (pe_ix ix_list (pv 6) (pv 4) (fun _ _ => rfl)) pe_int (fun _ _ => rfl)) po_none (po_some (pe_ix ix_list (pv 8) (pv 4) (fun _ _ => rfl)))) (pe_slice sl_list (pe_ix ix_list (pv 5) (pv 16) (fun _ _ => rfl)) (po_some (pe_ix ix_list (pv 8) (pv 4) (fun _ _ => rfl))) po_none)) (pg_sub (pv 5) (pv 16) set_list)))))
(pss_cons (ps_set (i := 6) sc_law.nd rfl (.inl rfl) (pe_lst pa_nil))
(pss_cons (ps_set (i := 7) sc_law.nd rfl (.inl rfl) (pe_op op_sub pe_int pe_int))
(pss_one (ps_set (i := 9) sc_law.nd rfl (.inl rfl) (pe_op op_add (pv 9) pe_int)))))))
(pss_cons (ps_if (pt_cmp (pc_notN (pv 15)))
(pss_one (ps_ret pe_bl))
pss_nil)
(Evl.pss_cut (ps_if (pt_cmpR op_gt (pv 7) pe_int (nomark _))
(pss_one (ps_set (i := 7) sc_law.nd rfl (.inl rfl) (pe_op op_sub (pv 7) pe_int)))
pss_nil)
(pss_one (ps_if (pt_cmpR op_eq (pv 13) (pe_op op_sub pe_int pe_int) (nomark _))
(pss_cons (ps_for PassesOwn.never rfl (pi_list (pv 6)) (pg_name (i := 17) sc_law.nd rfl (.inl rfl))
(pss_one (ps_asg (pe_ix ix_list (pv 17) pe_int (fun _ _ => rfl)) (pg_sub (pv 5) (pe_ix ix_list (pv 17) pe_int (fun _ _ => rfl)) set_list))))
(pss_one (ps_set (i := 6) sc_law.nd rfl (.inl rfl) (pe_lst pa_nil))))
(pss_one (ps_expr (pe_bm PySem.F.plainAttrs_list PySem.F.slot_list_append PySem.F.type_list_append mt_append (pv 6) (pa_cons (pe_lst (pa_cons (pv 13) (pa_cons (pv 14) pa_nil))) pa_nil)))))))))))))))))))
(pss_one (ps_if (PW.pt (pw_or (pt_cmpR op_ne (pe_meth0 (pv 3) A.cDisk m_Disk_pending_count G_Disk_pending_count (hr.mono (by decide)) b_Disk_pending_count .nil pass0) (pe_callB call_len_seq (by rfl) A.len PySem.boot_len (pa_cons (pv 6) pa_nil)) (nomark _)) (pw_or1 (pt_cmpR op_ne (pe_meth0 (pv 3) A.cDisk m_Disk_cut_count G_Disk_cut_count (hr.mono (by decide)) b_Disk_cut_count .nil pass0) (pv 9) (nomark _)))))
(pss_one (ps_ret pe_bl))
pss_nil)))))
(pss_cons (ps_expr (pe_meth (pv 3) A.cDisk m_Disk_cut_power G_Disk_cut_power (hr.mono (by decide)) b_Disk_cut_power .nil passN (pa_cons (pe_lst pa_nil) pa_nil)))
(pss_one (ps_ret (pe_cmpR (op_eqD (by exact hu64)) (pe_lc (own := [("at", 13)]) (tt := tYes) rfl sc_law.nd (pi_range1 (by rfl) A.range (pa_cons (pv 2) pa_nil)) (blkOk_by (N := ["script", "box", "size", "disk", "k", "blocks", "pending", "left", "torn", "cuts", "turn", "kind", "handed", "at", "block", "actual", "place", "entry"]) (sc := defScope s_law) (by decide +kernel)) (fun _ _ _ _ _ => pg_name (i := 13) sc_law.nd rfl (Or.inl rfl)) (fun _ _ _ _ _ => pts_nil) (fun _ _ _ _ _ => (pe_meth (pv 3) A.cDisk m_Disk_read G_Disk_read (hr.mono (by decide)) b_Disk_read .nil passN (pa_cons (pv 13) pa_nil)))) (pv 5) (nomark _)))))))))))))), ?_⟩
    refine ⟨_, rfl, a, ns, rfl, hS, fun dg ds H1 s1 n1 hdg => ⟨(by show 2 ≤ sizeLine; decide), fun b nb => ?_⟩⟩
    have B1 : Bx (upd H1 b (.lst [.ref dg, .int 0])) b dg ds := ⟨0, upd_same, by rw [upd_ne (ne_of_none hdg nb)]; exact hdg⟩
    refine ⟨_, rfl, b, dg, ds, 4, rfl, by decide, B1, fun r1 H3 r10 r11 f2 B3 => ⟨8, r1, rfl, rfl, ?_⟩⟩
    obtain ⟨n, en, n8, n400⟩ : ∃ n : Nat, 8 + r1 = (n : Int) ∧ 8 ≤ n ∧ n ≤ 400 := ⟨(8 + r1).toNat, by omega, by omega, by omega⟩
    show gName 2 (V.int (8 + r1)) _ _ _
    rw [en]
    refine ⟨_, rfl, fun p dx np ndx ne => ?_⟩
    have nbp := bx_nb B3 np
    have nbd := bx_nb B3 ndx
    have k0 : ∀ {c : Addr} {o : HO}, H3 c = some o → upd (upd H3 dx (.own p)) p (.ins CDisk dx []) c = some o := fun {c o} e => by
      rw [upd_ne (ne_of_none e np), upd_ne (ne_of_none e ndx)]
      exact e
    refine ⟨p, dx, (n : Int), rfl, upd_same, fun _ H4 L ps fr rg A4 => ⟨rfl, ?_⟩, fun z => absurd ⟨by omega, by omega⟩ z⟩
    rw [Int.toNat_natCast] at A4
    have s34 : Same H3 H4 := fun c o e => fr c o (ne_of_none e np) (k0 e)
    have B4 : Bx H4 b dg ds := Bk.bx_same s34 B3
    have nL : ∀ {c : Addr} {o : HO}, H3 c = some o → ¬ L c := fun {c o} e z => by
      rcases rg c z with z | z
      · exact ne_of_none e np z
      · rw [k0 e] at z
        cases z
    -- the law's own blocks
    refine ⟨_, rfl, (n : Int), rfl, by omega, by omega, fun D nD => ?_⟩
    rw [Int.toNat_natCast]
    refine lc_range (lo := 0) (n := n) (fun i H' => ∃ as : List Addr, H' D = some (.lst (as.map V.ref)) ∧ Paired (fun r a => H' a = some (.lst (r.map V.int))) (List.replicate i (List.replicate 32 (0 : Int))) as ∧ (∀ a ∈ as, H4 a = none ∧ a ≠ D) ∧ Same H4 H')
      ⟨[], upd_same, .nil, fun _ h => (nomatch h), same_new (Same.refl H4) nD⟩ ?_ ?_
    · rintro i H5 hi ⟨as, hD, rows, fr5, s5⟩
      refine ⟨rfl, (by show 1 ≤ sizeLine; decide), fun l nl => ⟨l, 32, _, rfl, rfl, upd_same, by decide, by decide, by decide +kernel, fun z nz => ?_⟩⟩
      obtain ⟨sz, hz, mz⟩ := rep_new (m := 32) nl nz
      generalize upd (upd H5 l (.lst [.int 0])) z (.lst (List.replicate (32 : Int).toNat [V.int 0]).flatten) = H6 at sz hz ⊢
      have nzD : z ≠ D := fun y => by
        rw [y, hD] at mz
        cases mz
      have kp : ∀ {c : Addr} {o : HO}, c ≠ D → H6 c = some o → upd H6 D (.lst (as.map V.ref ++ [.ref z])) c = some o := fun {c o} n e => by
        rw [upd_ne n]
        exact e
      have las : as.length = i := by
        have := Paired.length rows
        rw [List.length_replicate] at this
        exact this.symm
      refine ⟨_, sz _ _ hD, by rw [List.length_map, las, sizeLine_eq]; omega, as ++ [z], by rw [upd_same, List.map_append]; rfl, ?_, ?_, same_mut (s5.trans sz) nD⟩
      · rw [List.replicate_succ']
        exact paired_app (paired_all rows fun r a ha e => kp (fr5 a ha).2 (sz _ _ e)) (paired_one (kp nzD hz))
      · intro c hc
        rcases List.mem_append.mp hc with h | h
        · exact fr5 c h
        · rw [List.mem_singleton.mp h]
          exact ⟨fnone s5 mz, nzD⟩
    rintro H5 ⟨as, hD, rows, fr5, s5⟩
    -- nothing waits
    refine ⟨Nat.zero_le _, fun U nU => ?_⟩
    have s6 := same_new (o := .lst []) s5 nU
    have W6 : Wd CDisk (upd H5 U (.lst [])) b dg ds L (fun c => c = D ∨ c = U ∨ c ∈ as) p ps (fresh n) D U (fresh n).blocks (fresh n).wait := by
      obtain ⟨k, e1, e2⟩ := B3
      have nU4 : H4 U = none := fnone s5 nU
      have nDU : D ≠ U := ne_of_none hD nU
      have kp : ∀ {c : Addr} {o : HO}, H5 c = some o → upd H5 U (.lst []) c = some o := fun {c o} e => by
        rw [upd_ne (ne_of_none e nU)]
        exact e
      have new4 : ∀ {c : Addr} {o : HO}, H4 c = some o → ¬ (c = D ∨ c = U ∨ c ∈ as) := fun {c o} e z => by
        rcases z with rfl | rfl | z
        · rw [nD] at e
          cases e
        · rw [nU4] at e
          cases e
        · rw [(fr5 c z).1] at e
          cases e
      refine ⟨Bk.bx_same s6 B4, A4.same s6, ⟨as, [], ⟨kp hD, paired_all rows fun _ _ _ e => kp e, upd_same, .nil, .inl rfl, .inr (.inl rfl), fun _ h => .inr (.inr h), fun _ h => (nomatch h), nDU, fun z => (fr5 D z).2 rfl, fun z => ?_, fun _ h => (nomatch h), fun _ h => (nomatch h)⟩⟩, ?_, ?_, ⟨nL e1, new4 (s34 _ _ e1)⟩, ⟨nL e2, new4 (s34 _ _ e2)⟩⟩
      · obtain ⟨i, hi, e⟩ := List.getElem_of_mem z
        have li : i < (List.replicate n (List.replicate 32 (0 : Int))).length := by rw [Paired.length rows]; exact hi
        obtain ⟨y, hy, h1⟩ := row_at rows li
        rw [List.getElem?_eq_getElem hi, e] at hy
        cases hy
        rw [nU] at h1
        cases h1
      · intro c hc l
        exact hc.elim (fun e => A4.reg c l (by rw [e]; exact nD)) fun h => h.elim (fun e => A4.reg c l (by rw [e]; exact nU4)) fun h => A4.reg c l (fr5 c h).1
      · intro c hc z
        rcases hc with rfl | rfl | h
        · rw [kp hD] at z
          cases z
        · rw [upd_same] at z
          cases z
        · obtain ⟨i, hi, e⟩ := List.getElem_of_mem h
          have li : i < (List.replicate n (List.replicate 32 (0 : Int))).length := by rw [Paired.length rows]; exact hi
          obtain ⟨y, hy, h1⟩ := row_at rows li
          rw [List.getElem?_eq_getElem hi, e] at hy
          cases hy
          rw [kp h1] at z
          cases z
    generalize upd H5 U (.lst []) = H6 at W6 ⊢
    refine ⟨_, _, rfl, rfl, Nat.zero_le _, fun T nT => ?_⟩
    have T7 := Wd.tn W6 (o := .lst []) nT
    have W7 := W6.same (same_new (o := .lst []) (Same.refl H6) nT)
    generalize upd H6 T (.lst []) = H7 at W7 T7 ⊢
    have L0 : Ls CDisk a b dg p ds n 0 [some (.ref a), some (.ref b), some (.int (n : Int)), some (.ref p), none, some (.ref D), some (.ref U), some (.int (0 - 1)), some (.ref T), some (.int 0), none, none, none, none, none, none, none, none] H7 :=
      ⟨none, none, none, none, none, none, none, none, none, L, _, ps, fresh n, D, U, T, rfl, W7, by show (List.replicate n _).length = n; rw [List.length_replicate], T7, Nat.zero_le _, Nat.zero_le _⟩
    refine ⟨40, rfl, by decide, by decide, for_range (lo := 0) (n := 40) (fun i σ H' => Ls CDisk a b dg p ds n i σ H') L0 ?_ ?_⟩
    · rintro i σ Ha hi ⟨v4, v10, v11, v12, v13, v14, v15, v16, v17, L, M, ps, x, B, U, T, rfl, W, hn, TT, ht, hw⟩
      refine ⟨_, rfl, b, dg, ds, 10, rfl, by decide, W.bx, fun r Hb r0 r8 fb Bb => ?_⟩
      have Wb := W.draw fb Bb
      have Tb := TT.draw fb
      have tl : x.torn.length ≤ 2000 := by omega
      have wl : x.wait.length ≤ 900 := by omega
      have fit := W.at_.fit
      refine ⟨fun σ H' => Ls CDisk a b dg p ds n (i + 1) σ H', ?_, ?_⟩
      · refine ⟨_, rfl, rfl, _, rfl, ite2 (fun _ => iteT ?_) (fun _ => ⟨_, rfl, rfl, _, rfl, ite2 (fun _ => ?_) (fun _ => ?_)⟩)⟩
        rotate_left 2
        · -- no schedule
          refine ⟨_, rfl, rfl, _, rfl, ite2 (fun _ => ⟨_, rfl, b, dg, ds, 4, rfl, by decide, Wb.bx, fun r2 Hc _ _ fc Bc => ⟨rfl, _, rfl, ite2 (fun _ => ?cut) (fun _ => ?rest2)⟩⟩) (fun _ => iteF ?rest1)⟩
          case cut =>
            have Wc := Wb.draw fc Bc
            have Tc := Tb.draw fc
            obtain ⟨dx, bb, w, tt, tq, AB⟩ := id Wc.at_
            refine ⟨_, rfl, p, dx, _, rfl, AB.ins, meth_no (by decide +kernel), Nat.zero_le _, fun l nl => ?_⟩
            have Wd' := Wc.same (same_new (o := .lst []) (Same.refl Hc) nl)
            have Td := Tc.same (same_new (o := .lst []) (Same.refl Hc) nl)
            refine ⟨L, p, l, ps, x, [], rfl, Wd'.at_, SqL.of upd_same, (Wc.free nl).1, Nat.zero_le _, fun _ He Le se Ae => ?_, fun z => absurd (fun _ h => (nomatch h)) z⟩
            have We := Wd'.disk se Ae
            have Te := Td.disk se
            refine ⟨Nat.zero_le _, fun u nu => ⟨_, _, rfl, rfl, _, rfl, _, _, rfl, rfl, ?_⟩⟩
            have Wf := newW We nu
            have Tf := (Te.same (same_new (o := .lst []) (Same.refl He) nu)).more (Te.ne nu)
            have eb : x.blocks = (x.cut []).blocks := (storeB_none x.wait x.blocks).symm
            rw [eb] at Wf
            exact ⟨v4, _, _, _, _, _, _, _, _, Le, _, ps, x.cut [], B, u, T, rfl, Wf, by rw [← eb]; exact hn, Tf, ht, Nat.zero_le _⟩
          case' rest1 =>
            have Wr := Wb
            have Tr := Tb
          case' rest2 =>
            have Wr := Wb.draw fc Bc
            have Tr := Tb.draw fc
          all_goals
            refine ⟨_, rfl, rfl, _, rfl, ite2 (fun _ => ?_) (fun _ => ?_)⟩
            · -- what is refused
              refine ⟨_, rfl, _, rfl, (by show 1 ≤ sizeLine; decide), fun l1 nl1 => ⟨l1, 32, _, rfl, rfl, upd_same, by decide, by decide, by decide +kernel, fun z1 nz1 => ?_⟩⟩
              obtain ⟨s1, h1, m1⟩ := rep_new (m := 32) nl1 nz1
              have fz := Wr.free m1
              have W1 := Wr.same s1
              have T1 := Tr.same s1
              refine do_at (E := fun _ _ _ => False) W1.at_ h1 (by decide) fz.1 tl wl (by rw [hn]; omega) (by omega) fun t1 H2 s2 ht1 => ⟨(by show 2 ≤ sizeLine; decide), fun t2 nt2 => ref_ne ht1 nt2 (by decide +kernel) ⟨_, rfl, iteF ?_⟩⟩
              have W2 := (W1.same s2).same (same_new (o := .tup [.str "refused", .str "at"]) (Same.refl H2) nt2)
              have T2 := (T1.same s2).same (same_new (o := .tup [.str "refused", .str "at"]) (Same.refl H2) nt2)
              generalize upd H2 t2 (.tup [.str "refused", .str "at"]) = H3 at W2 T2 ⊢
              refine ⟨_, rfl, (by show 1 ≤ sizeLine; decide), fun l3 nl3 => ⟨l3, 31, _, rfl, rfl, upd_same, by decide, by decide, by decide +kernel, fun z3 nz3 => ?_⟩⟩
              obtain ⟨s3, h3, m3⟩ := rep_new (m := 31) nl3 nz3
              have fz3 := W2.free m3
              have W3 := W2.same s3
              have T3 := T2.same s3
              refine do_block (E := fun _ _ _ => False) W3.at_ h3 (by decide) fz3.1 tl wl (by rw [hn]; omega) (fun z => absurd z.1 (by decide)) fun t3 H4 s4 ht3 => ⟨(by show 2 ≤ sizeLine; decide), fun t4 nt4 => ref_ne ht3 nt4 (by decide +kernel) ⟨_, rfl, iteF ?_⟩⟩
              have W4 := (W3.same s4).same (same_new (o := .tup [.str "refused", .str "block"]) (Same.refl H4) nt4)
              have T4 := (T3.same s4).same (same_new (o := .tup [.str "refused", .str "block"]) (Same.refl H4) nt4)
              exact ⟨v4, _, _, _, _, _, _, _, _, L, M, ps, x, B, U, T, rfl, W4, hn, T4, ht, by omega⟩
            · -- a write, a flush
              refine ⟨_, _, rfl, rfl, ?_⟩
              refine ⟨fun σ H' => ∃ i' : Int, (i' = -1 ∨ (0 ≤ i' ∧ i' < (n : Int))) ∧ σ = [some (.ref a), some (.ref b), some (.int (n : Int)), some (.ref p), v4, some (.ref B), some (.ref U), some (.int (lv x.left)), some (.ref T), some (.int (x.cuts : Int)), some (.int (0 + (i : Int))), some (.int r), v12, some (.int i'), v14, v15, v16, v17] ∧ Wd CDisk H' b dg ds L M p ps x B U x.blocks x.wait ∧ Tn H' L M b dg T (.lst (inV x.torn)), ?_, ?_⟩
              · refine ⟨_, rfl, _, _, rfl, rfl, _, rfl, ite2 (fun _ => ?_) (fun _ => ?_)⟩
                · refine ⟨_, rfl, _, rfl, b, dg, ds, (n : Int), rfl, by omega, Wr.bx, fun i' Hd i0 i1 fd Bd => ?_⟩
                  exact ⟨i', .inr ⟨i0, i1⟩, rfl, Wr.draw fd Bd, Tr.draw fd⟩
                · exact ⟨0 - 1, .inl rfl, rfl, Wr, Tr⟩
              rintro σ H1 ⟨i', hi', rfl, W1, T1⟩
              refine ⟨_, rfl, by decide, by decide, fun D nD => ?_⟩
              have nb := bx_nb W1.bx nD
              refine lc_range (lo := 0) (n := 32) (fun j H' => ∃ u : List Int, H' D = some (.lst (u.map V.int)) ∧ u.length = j ∧ (∀ k ∈ u, 0 ≤ k ∧ k ≤ 255) ∧ Fx b H1 H' ∧ Bx H' b dg ds) ⟨[], upd_same, rfl, fun _ h => (nomatch h), (Fx.refl b H1).new nD, W1.bx.new nD⟩ ?_ ?_
              · rintro j H2 hj ⟨u, hD, hl, hu, f2, B2⟩
                refine ⟨rfl, _, rfl, b, dg, ds, 255, rfl, by decide, B2, fun y H3 y0 y1 f3 B3 => ?_⟩
                refine ⟨_, _, rfl, rfl, _, f3 _ _ nb.1 hD, by rw [List.length_map, hl, sizeLine_eq]; omega, u ++ [1 + y], by rw [upd_same, List.map_append]; rfl, by rw [List.length_append, hl]; rfl, fun k hk => ?_, (f2.trans f3).mut nD, B3.upd nb.1 nb.2⟩
                rcases List.mem_append.mp hk with h | h
                · exact hu k h
                · rw [List.mem_singleton.mp h]
                  omega
              rintro H2 ⟨row, hD, lrow, hrow, f2, B2⟩
              have W2 := W1.draw f2 B2
              have T2 := T1.draw f2
              have U2 : Tn H2 L M b dg D (.lst (row.map V.int)) := Wd.newTn W1 nD hD
              have nTD := T1.ne nD
              refine ⟨_, rfl, _, rfl, _, rfl, D, _, rfl, .inl (SqL.of hD), fun hd nhd => ?_⟩
              have fhd := W2.free nhd
              have W3 := W2.same (same_new (o := .lst (row.map V.int)) (Same.refl H2) nhd)
              have T3 := T2.same (same_new (o := .lst (row.map V.int)) (Same.refl H2) nhd)
              have U3 := U2.same (same_new (o := .lst (row.map V.int)) (Same.refl H2) nhd)
              have hhd : (upd H2 hd (.lst (row.map V.int))) hd = some (.lst (row.map V.int)) := upd_same
              generalize upd H2 hd (.lst (row.map V.int)) = H3 at W3 T3 U3 hhd ⊢
              refine do_go (E := fun _ _ _ => False) W3.at_ hhd (by omega) fhd.1 tl wl (by rw [hn]; exact hi') ⟨lrow, hrow⟩ (fun hl0 H4 L4 s4 A4 t nt => ?_) (fun hl0 e4 H4 L4 s4 A4 => ?_) (fun hl0 e4 H4 L4 s4 A4 => ?_)
              · -- the cut
                have W4 := (W3.disk s4 A4).same (same_new (o := .tup [.str "refused", .str "cut"]) (Same.refl H4) nt)
                have T4 := (T3.disk s4).same (same_new (o := .tup [.str "refused", .str "cut"]) (Same.refl H4) nt)
                have ht4 : (upd H4 t (.tup [.str "refused", .str "cut"])) t = some (.tup [.str "refused", .str "cut"]) := upd_same
                generalize upd H4 t (.tup [.str "refused", .str "cut"]) = H5 at W4 T4 ht4 ⊢
                refine ⟨_, rfl, rfl, _, rfl, ite2 (fun _ => ?_) (fun z => absurd (decide_eq_true (by rw [hl0]; rfl)) z)⟩
                refine ⟨_, rfl, (by show 2 ≤ sizeLine; decide), fun t2 nt2 => ref_ne ht4 nt2 (by decide +kernel) ⟨_, rfl, iteF ?_⟩⟩
                have Wf := W4.same (same_new (o := .tup [.str "refused", .str "cut"]) (Same.refl H5) nt2)
                have Tf := T4.same (same_new (o := .tup [.str "refused", .str "cut"]) (Same.refl H5) nt2)
                generalize upd H5 t2 (.tup [.str "refused", .str "cut"]) = Hf at Wf Tf ⊢
                obtain ⟨as1, gs1, O1⟩ := id Wf.own
                have lg1 : gs1.length = x.wait.length := (Paired.length O1.wt).symm
                refine ⟨_, rfl, T, _, rfl, .inl (SqL.of Tf.h), _, rfl, U, _, rfl, .inl (SqL.of O1.hu), _, _, rfl, ?_⟩
                have em : (if (((gs1.map fun g => V.ref g.1).length : Nat) : Int) < (((inV x.torn).length : Nat) : Int) then (((gs1.map fun g => V.ref g.1).length : Nat) : Int) else (((inV x.torn).length : Nat) : Int)) = ((min x.wait.length x.torn.length : Nat) : Int) := by
                  unfold inV
                  rw [List.length_map, List.length_map, lg1]
                  split <;> omega
                rw [em]
                refine ⟨_, rfl, by omega, by omega, ?_⟩
                rw [Int.toNat_natCast]
                refine for_range (lo := 0) (n := min x.wait.length x.torn.length) (fun k σ H' => ∃ (v4 v16 : Option V) (M' : Addr → Prop), σ = [some (.ref a), some (.ref b), some (.int (n : Int)), some (.ref p), v4, some (.ref B), some (.ref U), some (.int (lv x.left)), some (.ref T), some (.int (x.cuts : Int)), some (.int (0 + (i : Int))), some (.int r), v12, some (.int i'), some (.ref D), some (.ref t), v16, v17] ∧ Wd CDisk H' b dg ds L4 M' p ps (x.cut x.torn) B U (storeB x.blocks (x.wait.take k) (x.torn.take k)) x.wait ∧ Tn H' L4 M' b dg T (.lst (inV x.torn)))
                  ⟨v4, v16, M, rfl, Wf, Tf⟩ ?_ ?_
                · rintro k σ H2 hk ⟨v4, v16, M', rfl, W2, T2⟩
                  rw [Int.zero_add]
                  obtain ⟨as, gs, O⟩ := id W2.own
                  have lk : k < x.wait.length := by omega
                  have lkk : k < x.torn.length := by omega
                  obtain ⟨g, hg, h1, h2⟩ := row_at O.wt lk
                  have hw1 := fit.wait _ (List.getElem_mem lk)
                  have sl : (storeB x.blocks (x.wait.take k) (x.torn.take k)).length = x.blocks.length := storeB_len _ _ _
                  have al : as.length = x.blocks.length := by rw [← Paired.length O.rows, sl]
                  obtain ⟨c, hc, hrc⟩ := rows_get O.rows (i := (x.wait[k]).1) (by rw [sl]; exact hw1.1)
                  obtain ⟨kk, hkk⟩ : ∃ kk : Nat, x.torn[k] = kk := ⟨_, rfl⟩
                  have hat1 : atI (gs.map fun g => V.ref g.1) (k : Int) = some (.ref g.1) := atI_nat (by rw [List.getElem?_map, hg]; rfl)
                  have hat2 : atI (inV x.torn) (k : Int) = some (.int (kk : Int)) := atI_nat (by unfold inV; rw [List.getElem?_map, List.getElem?_eq_getElem lkk, hkk]; rfl)
                  have hat3 : atI (as.map V.ref) ((x.wait[k]).1 : Int) = some (.ref c) := atI_nat (by rw [List.getElem?_map, hc]; rfl)
                  have k32 : kk ≤ 32 := by have := fit.torn _ (List.getElem_mem lkk); omega
                  have lrow : ((storeB x.blocks (x.wait.take k) (x.torn.take k)).getD (x.wait[k]).1 []).length = 32 := by
                    rw [List.getD_eq_getElem?_getD, List.getElem?_eq_getElem (by rw [sl]; exact hw1.1)]
                    refine storeB_rows _ _ _ fit.rows (fun e he => fit.wait e (List.mem_of_mem_take he)) (fun j hj => fit.torn j (List.mem_of_mem_take hj)) _ (List.getElem_mem _)
                  refine ⟨_, rfl, _, rfl, U, _, _, _, rfl, rfl, SqL.of O.hu, hat1, g.1, _, 0, _, rfl, rfl, SqL.of h1, atI_nat (j := 0) rfl, ?_⟩
                  refine ⟨_, rfl, _, rfl, U, _, _, _, rfl, rfl, SqL.of O.hu, hat1, g.1, _, 1, _, rfl, rfl, SqL.of h1, atI_nat (j := 1) rfl, _, rfl, _, rfl, T, _, _, _, rfl, rfl, SqL.of T2.h, hat2, _, rfl, g.2, _, rfl, SqL.of h2, fun p1 np1 => ?_⟩
                  have s1 := same_new (o := .lst (cutV ((x.wait[k]).2.map V.int) none (some (kk : Int)))) (Same.refl H2) np1
                  refine ⟨_, rfl, _, rfl, B, _, _, _, rfl, rfl, SqL.of (s1 _ _ O.hb), hat3, _, rfl, _, rfl, T, _, _, _, rfl, rfl, SqL.of (s1 _ _ T2.h), hat2, _, rfl, c, _, rfl, SqL.of (s1 _ _ hrc), fun p2 np2 => ?_⟩
                  have s2 := same_new (o := .lst (cutV (((storeB x.blocks (x.wait.take k) (x.torn.take k)).getD (x.wait[k]).1 []).map V.int) (some (kk : Int)) none)) s1 np2
                  have h14 := same_new (o := .lst (cutV (((storeB x.blocks (x.wait.take k) (x.torn.take k)).getD (x.wait[k]).1 []).map V.int) (some (kk : Int)) none)) (Same.refl _) np2 p1 _ upd_same
                  have l2 : ((x.wait[k]).2).length = 32 := hw1.2
                  refine ⟨p1, p2, _, _, rfl, rfl, h14, upd_same, ?_, fun p3 np3 => ?_⟩
                  · rw [cut_take _ (by rw [List.length_map]; omega), cut_drop _ (by rw [List.length_map]; omega), List.length_take, List.length_drop, List.length_map, List.length_map, sizeLine_eq]
                    omega
                  have np0 := fnone s2 np3
                  have fp3 := W2.free np0
                  have s3 := same_new (o := .lst (cutV ((x.wait[k]).2.map V.int) none (some (kk : Int)) ++ cutV (((storeB x.blocks (x.wait.take k) (x.torn.take k)).getD (x.wait[k]).1 []).map V.int) (some (kk : Int)) none)) s2 np3
                  have h3 : (upd (upd (upd H2 p1 (.lst (cutV ((x.wait[k]).2.map V.int) none (some (kk : Int))))) p2 (.lst (cutV (((storeB x.blocks (x.wait.take k) (x.torn.take k)).getD (x.wait[k]).1 []).map V.int) (some (kk : Int)) none))) p3 (.lst (cutV ((x.wait[k]).2.map V.int) none (some (kk : Int)) ++ cutV (((storeB x.blocks (x.wait.take k) (x.torn.take k)).getD (x.wait[k]).1 []).map V.int) (some (kk : Int)) none))) p3 = some (.lst (((x.wait[k]).2.take kk ++ ((storeB x.blocks (x.wait.take k) (x.torn.take k)).getD (x.wait[k]).1 []).drop kk).map V.int)) := by
                    rw [upd_same, cut_take _ (by rw [List.length_map]; omega), cut_drop _ (by rw [List.length_map]; omega), List.map_append, List.map_take, List.map_drop]
                  generalize upd (upd (upd H2 p1 (.lst (cutV ((x.wait[k]).2.map V.int) none (some (kk : Int))))) p2 (.lst (cutV (((storeB x.blocks (x.wait.take k) (x.torn.take k)).getD (x.wait[k]).1 []).map V.int) (some (kk : Int)) none))) p3 (.lst (cutV ((x.wait[k]).2.map V.int) none (some (kk : Int)) ++ cutV (((storeB x.blocks (x.wait.take k) (x.torn.take k)).getD (x.wait[k]).1 []).map V.int) (some (kk : Int)) none)) = H3 at s3 h3 ⊢
                  have ntp : T ≠ p3 := T2.ne np0
                  have W3 := (W2.same s3).take (a := p3) (by rw [h3]; exact fun z => nomatch z) fp3.1 fp3.2.2.1 fp3.2.2.2
                  have O3 : Own H3 (fun c => M' c ∨ c = p3) B U (storeB x.blocks (x.wait.take k) (x.torn.take k)) x.wait as gs := (O.keep fun a o _ h => s3 _ _ h).more fun _ m => .inl m
                  have O4 := O3.set (i := (x.wait[k]).1) (f := p3) h3 (.inr rfl) (fun z => fp3.2.1 (by rw [z]; exact O.mB)) (fun z => fp3.2.1 (by rw [z]; exact O.mU)) (by rw [sl]; exact hw1.1)
                  have emk : x.torn[k]? = some kk := by rw [List.getElem?_eq_getElem lkk, hkk]
                  rw [← storeB_take k x.wait x.torn x.blocks (List.getElem?_eq_getElem lk) emk] at O4
                  have ntB : T ≠ B := fun z => T2.nm (by rw [z]; exact O.mB)
                  refine ⟨_, rfl, _, rfl, B, _, _, (x.wait[k]).1, rfl, rfl, O3.hb, ?_, ?_⟩
                  · rw [List.length_map, al]
                    unfold ixN
                    rw [if_pos (by omega), if_pos (by omega), Int.toNat_natCast]
                  · rw [show (as.map V.ref).set (x.wait[k]).1 (.ref p3) = (as.set (x.wait[k]).1 p3).map V.ref from by rw [List.map_set]]
                    exact ⟨_, _, _, rfl, W3.put (.inl O.mB) ⟨_, _, O4⟩, ((T2.same s3).more ntp).upd ntB⟩
                · rintro σ H2 ⟨v4, v16, M', rfl, W2, T2⟩
                  rw [storeB_min] at W2
                  refine ⟨Nat.zero_le _, fun u nu => ⟨_, _, rfl, rfl, _, rfl, _, _, rfl, rfl, ?_⟩⟩
                  have W3 := newW W2 nu
                  have T3 := (T2.same (same_new (o := .lst []) (Same.refl H2) nu)).more (T2.ne nu)
                  exact ⟨v4, _, _, v12, _, _, _, v16, v17, L4, _, ps, x.cut x.torn, B, u, T, rfl, W3, by rw [← hn]; exact storeB_len _ _ _, T3, ht, Nat.zero_le _⟩
              · -- a flush
                obtain ⟨dw, db, dc, dt⟩ := down_wait x
                have Wc := W3.disk s4 A4
                have Tc := T3.disk s4
                have Uc := U3.disk s4
                refine ⟨_, rfl, rfl, _, rfl, ite2 (fun z => absurd (V.int.inj (of_decide_eq_true z)) (lv_ne hl0)) (fun _ => ?_)⟩
                refine ⟨_, rfl, _, rfl, iteF ?_⟩
                refine ⟨fun σ H' => H' = H4 ∧ σ = [some (.ref a), some (.ref b), some (.int (n : Int)), some (.ref p), v4, some (.ref B), some (.ref U), some (.int (lv (St.down x).left)), some (.ref T), some (.int (x.cuts : Int)), some (.int (0 + (i : Int))), some (.int r), v12, some (.int i'), some (.ref D), some .non, v16, v17], ?_, ?_⟩
                · refine ⟨_, rfl, _, _, rfl, rfl, _, rfl, ite2 (fun z => ⟨_, rfl, _, _, rfl, rfl, rfl, ?_⟩) (fun z => ⟨rfl, ?_⟩)⟩
                  · rw [lv_dec (of_decide_eq_true z)]
                    rfl
                  · rw [lv_stay (fun y => z (decide_eq_true y)) hl0]
                    rfl
                rintro σ H5 ⟨e5, rfl⟩
                subst e5
                refine ⟨_, rfl, _, _, rfl, rfl, rfl, _, rfl, ite2 (fun _ => ?_) (fun z => absurd (decide_eq_true (by rw [e4]; rfl)) z)⟩
                obtain ⟨as0, gs, O0⟩ := id Wc.own
                refine ⟨_, rfl, U, rfl, ⟨_, SqL.of O0.hu⟩, ?_⟩
                refine for_it (walk_list (K := K) (a := U) (xs := gs.map fun g => V.ref g.1)) (fun k σ H' => ∃ v17' : Option V, σ = [some (.ref a), some (.ref b), some (.int (n : Int)), some (.ref p), v4, some (.ref B), some (.ref U), some (.int (lv (St.down x).left)), some (.ref T), some (.int (x.cuts : Int)), some (.int (0 + (i : Int))), some (.int r), v12, some (.int i'), some (.ref D), some .non, v16, v17'] ∧ ∃ as, Own H' M B U ((x.wait.take k).foldl (fun c e => c.set e.1 e.2) x.blocks) x.wait as gs ∧ Wd CDisk H' b dg ds L4 M p ps (St.down x).full B U ((x.wait.take k).foldl (fun c e => c.set e.1 e.2) x.blocks) x.wait ∧ Tn H' L4 M b dg T (.lst (inV x.torn)))
                  ⟨v17, rfl, as0, O0, Wc, Tc⟩ (fun k σ H' _ h => by obtain ⟨_, _, as, O, _⟩ := h; exact SqL.of O.hu) ?_ ?_
                · rintro k v σ H2 H2' hk ⟨v17', rfl, as, O, W2, T2⟩ ⟨rfl, hv⟩
                  rw [List.getElem?_map] at hv
                  obtain ⟨g, hg, rfl⟩ : ∃ g, gs[k]? = some g ∧ v = V.ref g.1 := by
                    cases e : gs[k]? with
                    | none => rw [e] at hv; cases hv
                    | some g => rw [e] at hv; exact ⟨g, rfl, (Option.some.inj hv).symm⟩
                  have lk : k < x.wait.length := by
                    rw [Paired.length O.wt]
                    exact (List.getElem?_eq_some_iff.mp hg).1
                  obtain ⟨g', hg', h1, h2⟩ := row_at O.wt lk
                  rw [hg] at hg'
                  cases hg'
                  have hw1 := fit.wait _ (List.getElem_mem lk)
                  have fl : ((x.wait.take k).foldl (fun c e => c.set e.1 e.2) x.blocks).length = x.blocks.length := fold_len _ _
                  have al : as.length = x.blocks.length := by rw [← Paired.length O.rows, fl]
                  have hgm := O.mg g (List.mem_of_getElem? hg)
                  have nB := O.nBg g (List.mem_of_getElem? hg)
                  have nU := O.nUg g (List.mem_of_getElem? hg)
                  have O2 := O.set (i := (x.wait[k]).1) (f := g.2) h2 hgm.2 (Ne.symm nB.2) (Ne.symm nU.2) (by rw [fl]; exact hw1.1)
                  have ef : ((x.wait.take k).foldl (fun c e => c.set e.1 e.2) x.blocks).set (x.wait[k]).1 (x.wait[k]).2 = (x.wait.take (k + 1)).foldl (fun c e => c.set e.1 e.2) x.blocks := by
                    rw [List.take_succ, List.getElem?_eq_getElem lk, List.foldl_append]
                    rfl
                  rw [ef] at O2
                  refine ⟨_, rfl, g.1, _, 1, _, rfl, rfl, SqL.of h1, atI_nat (j := 1) rfl, _, rfl, _, rfl, g.1, _, 0, _, rfl, rfl, SqL.of h1, atI_nat (j := 0) rfl, B, _, _, (x.wait[k]).1, rfl, rfl, O.hb, ?_, ?_⟩
                  · rw [List.length_map, al]
                    unfold ixN
                    rw [if_pos (by omega), if_pos (by omega), Int.toNat_natCast]
                  · rw [show (as.map V.ref).set (x.wait[k]).1 (.ref g.2) = (as.set (x.wait[k]).1 g.2).map V.ref from by rw [List.map_set]]
                    exact ⟨_, rfl, _, O2, W2.put O.mB ⟨_, _, O2⟩, T2.upd (fun z => T2.nm (by rw [z]; exact O.mB))⟩
                · rintro σ H2 ⟨v17', rfl, as, O, W2, T2⟩
                  rw [List.length_map, ← Paired.length O.wt, List.take_length] at W2
                  refine ⟨Nat.zero_le _, fun u nu => ?_⟩
                  have W3 := newW W2 nu
                  have T3 := (T2.same (same_new (o := .lst []) (Same.refl H2) nu)).more (T2.ne nu)
                  have eb : x.wait.foldl (fun c e => c.set e.1 e.2) x.blocks = (St.down x).full.blocks := by
                    have := (storeB_full x.wait x.blocks fit.rows fit.wait).symm
                    rw [this]
                    show _ = storeB (St.down x).blocks (St.down x).wait (List.replicate (St.down x).wait.length 32)
                    rw [dw, db]
                  rw [eb] at W3
                  rw [← dt] at T3
                  rw [← dc]
                  exact ⟨v4, _, _, v12, _, _, _, v16, v17', L4, _, ps, (St.down x).full, B, u, T, rfl, W3, by rw [← hn, ← db]; exact storeB_len _ _ _, T3, by show (St.down x).torn.length ≤ 9; rw [dt]; exact ht, Nat.zero_le _⟩
              · -- a write
                obtain ⟨dw, db, dc, dt⟩ := down_wait x
                have Wc := W3.disk s4 A4
                have Tc := T3.disk s4
                have Uc := U3.disk s4
                refine ⟨_, rfl, rfl, _, rfl, ite2 (fun z => absurd (V.int.inj (of_decide_eq_true z)) (lv_ne hl0)) (fun _ => ?_)⟩
                refine ⟨_, rfl, _, rfl, iteF ?_⟩
                refine ⟨fun σ H' => H' = H4 ∧ σ = [some (.ref a), some (.ref b), some (.int (n : Int)), some (.ref p), v4, some (.ref B), some (.ref U), some (.int (lv (St.down x).left)), some (.ref T), some (.int (x.cuts : Int)), some (.int (0 + (i : Int))), some (.int r), v12, some (.int i'), some (.ref D), some .non, v16, v17], ?_, ?_⟩
                · refine ⟨_, rfl, _, _, rfl, rfl, _, rfl, ite2 (fun z => ⟨_, rfl, _, _, rfl, rfl, rfl, ?_⟩) (fun z => ⟨rfl, ?_⟩)⟩
                  · rw [lv_dec (of_decide_eq_true z)]
                    rfl
                  · rw [lv_stay (fun y => z (decide_eq_true y)) hl0]
                    rfl
                rintro σ H5 ⟨e5, rfl⟩
                subst e5
                refine ⟨_, rfl, _, _, rfl, rfl, rfl, _, rfl, ite2 (fun z => absurd (V.int.inj (of_decide_eq_true z)) e4) (fun _ => ?_)⟩
                obtain ⟨j, rfl⟩ : ∃ j : Nat, i' = (j : Int) := ⟨i'.toNat, by omega⟩
                rw [Int.toNat_natCast] at Wc
                obtain ⟨asg, gsg, Og⟩ := id Wc.own
                refine ⟨_, rfl, .inl ⟨rfl, _, SqL.of Og.hu⟩, _, rfl, _, rfl, (by show 2 ≤ sizeLine; decide), fun tp ntp => ?_⟩
                have Wh := Wc.same (same_new (o := .lst [.int (j : Int), .ref D]) (Same.refl _) ntp)
                have Th := Tc.same (same_new (o := .lst [.int (j : Int), .ref D]) (Same.refl _) ntp)
                have Uh := Uc.same (same_new (o := .lst [.int (j : Int), .ref D]) (Same.refl _) ntp)
                have ftp := Wc.free ntp
                have nTt := Tc.ne ntp
                have W5 := Wh.take (a := D) (by rw [Uh.h]; exact fun z => nomatch z) Uh.nl Uh.nb Uh.nd
                have W6 := W5.take (a := tp) (by rw [upd_same]; exact fun z => nomatch z) ftp.1 ftp.2.2.1 ftp.2.2.2
                obtain ⟨as, gs, O⟩ := id W6.own
                have nBU : ∀ c, ¬ M c → c ≠ B ∧ c ≠ U := fun c m => ⟨fun z => m (by rw [z]; exact Og.mB), fun z => m (by rw [z]; exact Og.mU)⟩
                have O3 := O.add (t := tp) (f := D) (i := j) (r := row) upd_same Uh.h (.inr rfl) (.inl (.inr rfl)) (nBU tp ftp.2.1) (nBU D Uh.nm)
                refine ⟨U, _, _, rfl, rfl, O.hu, ?_, ?_⟩
                · rw [List.length_map, ← Paired.length O.wt, sizeLine_eq]
                  omega
                · have T6 := ((Th.more nTD).more nTt).upd (a := U) (u := .lst (gs.map (fun g => V.ref g.1) ++ [.ref tp])) (nBU T Tc.nm).2
                  have W7 := W6.put O.mU ⟨_, _, O3⟩
                  rw [← db] at W7
                  rw [← dt] at T6
                  rw [← dc]
                  exact ⟨v4, _, _, v12, _, _, _, v16, v17, L4, _, ps, { St.down x with wait := x.wait ++ [(j, row)] }, B, U, T, rfl, W7, by rw [← hn, ← db], T6, by show (St.down x).torn.length ≤ 9; rw [dt]; exact ht, by
                    show (x.wait ++ [(j, row)]).length ≤ i + 1
                    rw [List.length_append]
                    show x.wait.length + 1 ≤ i + 1
                    omega⟩
        all_goals
          refine ⟨_, rfl, b, dg, ds, 21, rfl, by decide, Wb.bx, fun lf Hc l0 l21 fc Bc => ?_⟩
          have Wc := Wb.draw fc Bc
          refine ⟨_, rfl, b, dg, ds, 9, rfl, by decide, Bc, fun tn ltn tr ks Hd ntr htr lks hks fd Bd => ?_⟩
          have Wd' := Wc.draw fd Bd
          have Td : Tn Hd L M b dg tr (.lst (ks.map V.int)) := Wd.newTn Wc ntr htr
          refine ⟨_, rfl, tr, _, rfl, .inl (SqL.of htr), fun hd nhd => ?_⟩
          have We := Wd'.same (same_new (o := .lst (ks.map V.int)) (Same.refl Hd) nhd)
          have Te := Td.same (same_new (o := .lst (ks.map V.int)) (Same.refl Hd) nhd)
          have Ue := Wd.tn Wd' (o := .lst (ks.map V.int)) nhd
          have nth := Td.ne nhd
          generalize upd Hd hd (.lst (ks.map V.int)) = He at We Te Ue ⊢
          -- a first schedule
          refine ⟨_, rfl, (by show 1 ≤ sizeLine; decide), fun l1 nl1 => ?_⟩
          have Wf := We.same (same_new (o := .lst [.int 32]) (Same.refl He) nl1)
          have Tf := Te.same (same_new (o := .lst [.int 32]) (Same.refl He) nl1)
          have Uf := Ue.same (same_new (o := .lst [.int 32]) (Same.refl He) nl1)
          refine sc_go (E := fun _ _ _ => False) (ks := [32]) Wf.at_ upd_same (We.free nl1).1 (by decide) ⟨by decide, by decide⟩ (fun k hk => by rw [List.mem_singleton.mp hk]; exact ⟨by decide, by decide⟩) fun Hg Lg sg Ag => ?_
          have Wg := Wf.disk sg Ag
          have Tg := Tf.disk sg
          have Ug := Uf.disk sg
          refine ⟨_, rfl, iteF ?_⟩
          -- the schedule
          refine ⟨_, rfl, _, rfl, _, rfl, ?_⟩
          refine sc_go (E := fun _ _ _ => False) (ks := ks) Wg.at_ Ug.h Ug.nl (by omega) ⟨by omega, by omega⟩ hks fun Hh Lh sh Ah => ?_
          have Wh := Wg.disk sh Ah
          have Th := Tg.disk sh
          have Uh := Ug.disk sh
          refine ⟨_, rfl, iteF ?_⟩
          refine ⟨_, rfl, .inl ⟨rfl, _, SqL.of Uh.h⟩, hd, _, _, rfl, rfl, Uh.h, by rw [List.length_map, sizeLine_eq]; omega, ?_⟩
          have Wi := Wd.out Wh (a := hd) (o := .lst (ks.map V.int ++ [.int 1])) ⟨Uh.nl, Uh.nm, Uh.nb, Uh.nd⟩
          have Ti := Th.upd (a := hd) (u := .lst (ks.map V.int ++ [.int 1])) nth
          generalize upd Hh hd (.lst (ks.map V.int ++ [.int 1])) = Hi at Wi Ti ⊢
          -- too many
          refine ⟨_, rfl, _, _, rfl, rfl, (by show 2 ≤ sizeLine; decide), fun la nla => ?_⟩
          have Ua := Wd.tn Wi (o := .lst [.int (0 - 1), .int 100001]) nla
          have Wj := Wi.same (same_new (o := .lst [.int (0 - 1), .int 100001]) (Same.refl Hi) nla)
          have Tj := Ti.same (same_new (o := .lst [.int (0 - 1), .int 100001]) (Same.refl Hi) nla)
          generalize upd Hi la (.lst [.int (0 - 1), .int 100001]) = Hj at Ua Wj Tj ⊢
          refine ⟨_, rfl, b, dg, ds, 2, rfl, by decide, Wj.bx, fun r2 Hk r20 r21 fk Bk' => ?_⟩
          have Wk := Wj.draw fk Bk'
          have Tk := Tj.draw fk
          obtain ⟨im, him, nim⟩ := pickM r20 r21
          refine ⟨la, _, r2, _, rfl, rfl, SqL.of (Ua.draw fk).h, him, (by show 1 ≤ sizeLine; decide), fun l2 nl2 => ?_⟩
          have Wl := Wk.same (same_new (o := .lst [.int 33]) (Same.refl Hk) nl2)
          have Tl := Tk.same (same_new (o := .lst [.int 33]) (Same.refl Hk) nl2)
          refine sc_many (E := fun _ _ _ => False) (ks := [33]) Wl.at_ upd_same (Wk.free nl2).1 (by decide) nim fun t1 Hm sm ht1 => ⟨(by show 2 ≤ sizeLine; decide), fun t2 nt2 => ref_ne ht1 nt2 (by decide +kernel) ⟨_, rfl, iteF ?_⟩⟩
          have Wn := (Wl.same sm).same (same_new (o := .tup [.str "refused", .str "many"]) (Same.refl Hm) nt2)
          have Tn' := (Tl.same sm).same (same_new (o := .tup [.str "refused", .str "many"]) (Same.refl Hm) nt2)
          generalize upd Hm t2 (.tup [.str "refused", .str "many"]) = Hn at Wn Tn' ⊢
          -- too great a number of bytes
          refine ⟨_, rfl, (by show 1 ≤ sizeLine; decide), fun l3 nl3 => ?_⟩
          have Wo := Wn.same (same_new (o := .lst [.int 33]) (Same.refl Hn) nl3)
          have To := Tn'.same (same_new (o := .lst [.int 33]) (Same.refl Hn) nl3)
          refine sc_torn (E := fun _ _ _ => False) (ks := [33]) Wo.at_ upd_same (Wn.free nl3).1 (by decide) ⟨by decide, by decide⟩ (fun z => absurd (z 33 (by simp)) (by decide)) fun t3 Hp' sp ht3 => ⟨(by show 2 ≤ sizeLine; decide), fun t4 nt4 => ref_ne ht3 nt4 (by decide +kernel) ⟨_, rfl, iteF ?_⟩⟩
          have Wq := (Wo.same sp).same (same_new (o := .tup [.str "refused", .str "torn"]) (Same.refl Hp') nt4)
          have Tq := (To.same sp).same (same_new (o := .tup [.str "refused", .str "torn"]) (Same.refl Hp') nt4)
          rw [ints_of hks] at Tq
          refine ⟨v4, some (.int (0 + (i : Int))), some (.int r), some (.ref hd), v13, v14, v15, v16, v17, Lh, M, ps, _, B, U, tr, ?_, Wq, hn, Tq, by show (ks.map Int.toNat).length ≤ 9; rw [List.length_map]; omega, by show x.wait.length ≤ i + 1; omega⟩
          show _ = [some (V.ref a), some (V.ref b), some (V.int (n : Int)), some (V.ref p), v4, some (V.ref B), some (V.ref U), some (V.int ((lf.toNat : Nat) : Int)), some (V.ref tr), some (V.int (x.cuts : Int)), some (.int (0 + (i : Int))), some (.int r), some (.ref hd), v13, v14, v15, v16, v17]
          rw [show ((lf.toNat : Nat) : Int) = lf by omega]
          rfl
      · rintro σ H2 ⟨v4, v10, v11, v12, v13, v14, v15, v16, v17, L, M, ps, x, B, U, T, rfl, W2, hn, TT, ht, hw⟩
        obtain ⟨dx, bb, w, tt, tq, AB⟩ := id W2.at_
        obtain ⟨as, gs, O⟩ := id W2.own
        refine ⟨_, rfl, p, dx, _, rfl, AB.ins, meth_no (by decide +kernel), L, p, ps, x, rfl, W2.at_, _, rfl, U, _, rfl, .inl (SqL.of O.hu), rfl, _, rfl, ?_⟩
        rw [List.length_map, ← Paired.length O.wt]
        refine ite2 (fun z => absurd z (by simp)) (fun _ => ?_)
        refine ⟨_, rfl, p, dx, _, rfl, AB.ins, meth_no (by decide +kernel), L, p, ps, x, rfl, W2.at_, _, rfl, rfl, _, rfl, ite2 (fun z => absurd z (by simp)) (fun _ => ?_)⟩
        exact ⟨v4, _, _, _, _, _, _, _, _, L, M, ps, x, B, U, T, rfl, W2, hn, TT, ht, hw⟩
    · rintro σ Hc ⟨v4, v10, v11, v12, v13, v14, v15, v16, v17, L, M, ps, x, B, U, T, rfl, W, hn, TT, ht, hw⟩
      have fit := W.at_.fit
      obtain ⟨dx, bb, w, tt, tq, AB⟩ := id W.at_
      refine ⟨_, rfl, p, dx, _, rfl, AB.ins, meth_no (by decide +kernel), Nat.zero_le _, fun l nl => ?_⟩
      have Wd' := W.same (same_new (o := .lst []) (Same.refl Hc) nl)
      refine ⟨L, p, l, ps, x, [], rfl, Wd'.at_, SqL.of upd_same, (W.free nl).1, Nat.zero_le _, fun _ He Le se Ae => ?_, fun z => absurd (fun _ h => (nomatch h)) z⟩
      have We := Wd'.disk se Ae
      have lb : (x.cut []).blocks.length = n := by
        rw [← hn]
        exact storeB_len _ _ _
      refine ⟨_, rfl, (n : Int), rfl, by omega, by omega, fun D nD => ?_⟩
      rw [Int.toNat_natCast]
      refine lc_range (lo := 0) (n := n) (fun j H' => ∃ as : List Addr, H' D = some (.lst (as.map V.ref)) ∧ Paired (fun r a => H' a = some (.lst (r.map V.int))) (x.blocks.take j) as ∧ (∀ a ∈ as, a ≠ D) ∧ Same He H')
        ⟨[], upd_same, by rw [List.take_zero]; exact .nil, fun _ h => (nomatch h), same_new (Same.refl He) nD⟩ ?_ ?_
      · rintro j H2 hj ⟨as, hD, rows, nas, s2⟩
        have W2 := We.same s2
        obtain ⟨dx2, bb2, w2, tt2, tq2, AB2⟩ := id W2.at_
        refine ⟨rfl, _, rfl, p, dx2, _, rfl, AB2.ins, meth_no (by decide +kernel), _, rfl, Le, p, ps, x.cut [], 0 + (j : Int), rfl, W2.at_, fun _ rr H3 s3 nrr hrr => ?_, fun z => absurd ⟨by omega, by omega⟩ z⟩
        have er : (x.cut []).read (0 + (j : Int)).toNat = x.blocks[j]'(by omega) := by
          rw [Int.zero_add, Int.toNat_natCast]
          show (storeB x.blocks x.wait []).getD j [] = _
          rw [storeB_none, List.getD_eq_getElem?_getD, List.getElem?_eq_getElem (by omega)]
          rfl
        rw [er] at hrr
        have nrD : rr ≠ D := fun z => by
          rw [z, hD] at nrr
          cases nrr
        have las : as.length = j := by
          have := Paired.length rows
          rw [List.length_take] at this
          omega
        have kp : ∀ {c : Addr} {o : HO}, c ≠ D → H3 c = some o → upd H3 D (.lst (as.map V.ref ++ [.ref rr])) c = some o := fun {c o} n e => by
          rw [upd_ne n]
          exact e
        refine ⟨_, s3 _ _ hD, by rw [List.length_map, las, sizeLine_eq]; omega, as ++ [rr], by rw [upd_same, List.map_append]; rfl, ?_, ?_, same_mut (s2.trans s3) nD⟩
        · rw [List.take_succ, List.getElem?_eq_getElem (by omega)]
          exact paired_app (paired_all rows fun r a ha e => kp (nas a ha) (s3 _ _ e)) (paired_one (kp nrD hrr))
        · intro c hc
          rcases List.mem_append.mp hc with h | h
          · exact nas c h
          · rw [List.mem_singleton.mp h]
            exact nrD
      · rintro H2 ⟨as, hD, rows, nas, s2⟩
        rw [List.take_of_length_le (by omega)] at rows
        obtain ⟨asO, gsO, O⟩ := (We.same s2).own
        refine ⟨_, rfl, .list (x.blocks.map iD), .list (x.blocks.map iD), .lst (SqL.of hD) (rows_dp (rows_v rows)), .lst (SqL.of O.hb) (rows_dp (rows_v O.rows)), rows_shaped _, rows_shaped _, ?_⟩
        rw [SeqAt.eqv_refl _ (shaped_lay (rows_shaped x.blocks))]
        exact q _
end
end K41
set_option Elab.async false
set_option linter.all false
set_option maxRecDepth 100000
set_option maxHeartbeats 8000000
/-! K41k: the error's class; what the top has written; the end. -/
namespace K41
open PySem PySem.Spec PyProof.Rows L2 Gd Com Bk Nw Xs Dk NdefX
abbrev s_O : Stmt := inClass (topx 2) 0
theorem out_init {P : Program} {w : World} {K : PySem.W.Frag} {mg : Str → Option Value} {base : Heap} {C fI cc cda : Addr} {fd : FuncData} (S : SupF P K C fI cc cda "OutOfRange.__init__" (defArgs s_O) (defBody s_O) (defScope s_O) fd) (T : OexC K C) (hno : PySem.W.findIn K (.ref C) "name" = some none) (hs : mg "super" = none) :
    FnOk P w K mg base CX0 1 fI fd ["self", "name"] (spSup C "name") := by
  have hb : defBody s_O = supB _ _ _ _ _ _ _ _ _ (.JoinedStr [.FormattedValue (.Name "name" _) (-1) none _, .Constant (.str " is out of range") 0 _] _) "self" "name" "name" := rfl
  have hp : ((defArgs s_O).posonlyargs ++ (defArgs s_O).args).head? = some ⟨"self", none, _⟩ := rfl
  rw [hb] at S
  refine sup_fn (ar := ⟨"self", none, _⟩) (scope := defScope s_O) S T hno (nscope_by (by decide +kernel)) hp (by decide +kernel) hs (fun Y hN hsc => pa_cons (pe_joined (.cons (pe_fmt (pe_var (i := 1) (by rw [hN]; rfl) ?_)) (.cons pe_str .nil))) pa_nil) (fun a z H hz => ?_) (fun env => ⟨_, rfl⟩) (fun env => rfl) (fun env => rfl) (fun env => rfl) ?_
  · rw [hsc]
    exact .inl (by decide +kernel)
  · have e0 : (Str.empty ++ z : Str).length = z.length := by
      rw [Str.length_append]
      have : (Str.empty : Str).length = 0 := by decide +kernel
      omega
    refine ⟨_, rfl, .inl ⟨z, rfl, by rw [sizeLine_eq]; omega, z, rfl, by rw [e0, sizeLine_eq]; omega, _, rfl, ?_, (by show 1 ≤ 1000; decide), rfl⟩⟩
    rw [Str.length_append, e0, sizeLine_eq]
    have : (" is out of range" : Str).length = 16 := by decide +kernel
    omega
  · exact ⟨by decide +kernel, by decide +kernel, by decide +kernel, by decide +kernel⟩
theorem cls_of {K : PySem.W.Frag} {S : Addr} (h2 : PySem.W.isClsIn K S = true) (h3 : PySem.W.typeIn K (.ref S) = some (.type "type")) : ((PySem.W.clsIn K S).isSome && PySem.W.typeIn K (.ref S) == some (.type "type")) = true := by
  have h2' : (PySem.W.clsIn K S).isSome = true := h2
  rw [h2', h3] <;> rfl
theorem exm_of {K : PySem.W.Frag} {D S : Addr} {b : Bool} (h1 : PySem.W.subIn K (.ref S) (.type "BaseException") = some true) (h2 : PySem.W.isClsIn K S = true) (h3 : PySem.W.typeIn K (.ref S) = some (.type "type")) (h4 : PySem.W.subIn K (.ref D) (.ref S) = some b) :
    PySem.W.exmOne K (.ref D) (.ref S) = some b := by
  have e1 : (PySem.W.subIn K (.ref S) (.type "BaseException") == some true) = true := by rw [h1] <;> rfl
  have e2 := cls_of h2 h3
  show (if (PySem.W.subIn K (.ref S) (.type "BaseException") == some true) = true then (if ((PySem.W.clsIn K S).isSome && PySem.W.typeIn K (.ref S) == some (.type "type")) = true then PySem.W.subIn K (.ref D) (.ref S) else none) else none) = some b
  rw [if_pos e1, if_pos e2]
  exact h4
theorem kit_of {K : PySem.W.Frag} {D S : Addr} {b : Bool} (ne : (Value.ref D == Value.ref S) = false) (h2 : PySem.W.isClsIn K S = true) (h3 : PySem.W.typeIn K (.ref S) = some (.type "type")) (h4 : PySem.W.subIn K (.ref D) (.ref S) = some b) : PySem.W.kitOne K (.ref D) (.ref S) = some b := by
  have e2 := cls_of h2 h3
  show (if (Value.ref D == Value.ref S) = true then some true else (if ((PySem.W.clsIn K S).isSome && PySem.W.typeIn K (.ref S) == some (.type "type")) = true then PySem.W.subIn K (.ref D) (.ref S) else none)) = some b
  rw [ne, if_neg (by decide), if_pos e2]
  exact h4
theorem sup_of {K : PySem.W.Frag} {C CK : Addr} {nm q : Str} {N : Addr} {bs bm : List Value} {sn : List Str} {sub : List Value} {ab : Bool} {col : Option Bool} {dd : Option Addr} {k0 k1 k2 k3 k5 : Option Value} {ycl : Value} {ydd : Option Addr} {ycd : ClassData} {ysl : Array (Option Value)} {v : Value}
    (xo : K.lookup C = some (excClassObj nm q C N bs bm true sn sub ab col dd k0 k1 k2 k3 k5 "ValueError.__new__")) (yo : K.lookup CK = some ⟨ycl, ydd, .cls ycd, ysl⟩) (ym : bm = ycd.mro) (yf : PySem.W.findIn K (.ref CK) "__init__" = some (some v)) : PySem.W.ks_superIn K C C "__init__" = some (some v) := by
  have hcls : PySem.W.clsIn K C = some { name := nm, bases := bs, mro := .ref C :: bm, ns := N, qualname := q, hasDict := true, slotNames := sn, subclasses := sub, abstract := ab, collection := col, hasDel := false } := by
    unfold PySem.W.clsIn
    rw [xo] <;> rfl
  unfold PySem.W.ks_superIn
  rw [hcls]
  have e : PySem.W.findIn K (.ref CK) "__init__" = PySem.W.alongIn K "__init__" ycd.mro := by
    unfold PySem.W.findIn
    dsimp only
    rw [yo]
  show PySem.W.alongIn K "__init__" (List.drop 1 (List.dropWhile (fun x => x != Value.ref C) (Value.ref C :: bm))) = _
  rw [List.dropWhile_cons_of_neg (by simp)]
  show PySem.W.alongIn K "__init__" bm = _
  rw [ym, ← e]
  exact yf
theorem all_mk {l : PySem.W.OpenLaw} {w : World} {K : PySem.W.Frag} {h : Heap} {mg : Str → Option Value} {fa CDisk COutOfRange CPowerCut CKeepError p0 p1 p2 p3 p4 p5 p6 p7 p8 p9 p10 p11 p12 p13 p14 p15 p16 p17 p18 p19 p20 p21 : Addr} (X : K.In h) (G : h.Ns mainGlobals mg) (hfa : mg "law" = some (.ref fa))
    {od0 an0 od1 an1 od2 an2 od3 an3 od4 an4 od5 an5 od6 an6 od7 an7 od8 an8 od9 an9 od10 an10 od11 an11 od12 an12 od13 an13 od14 an14 od15 an15 od16 an16 od17 an17 od18 an18 od19 an19 od20 an20 od21 an21 : Option Addr} {sl0 sl1 sl2 sl3 sl4 sl5 sl6 sl7 sl8 sl9 sl10 sl11 sl12 sl13 sl14 sl15 sl16 sl17 sl18 sl19 sl20 sl21 : Array (Option Value)} {oc0 kV0 dc0 pm0 cd0 ct0 oc1 kV1 dc1 pm1 cd1 ct1 oc2 kV2 dc2 pm2 cd2 ct2 oc3 kV3 dc3 pm3 cd3 ct3 oc4 kV4 dc4 pm4 cd4 ct4 oc5 kV5 dc5 pm5 cd5 ct5 oc6 kV6 dc6 pm6 cd6 ct6 oc7 kV7 dc7 pm7 cd7 ct7 oc8 kV8 dc8 pm8 cd8 ct8 oc9 kV9 dc9 pm9 cd9 ct9 oc10 kV10 dc10 pm10 cd10 ct10 oc11 kV11 dc11 pm11 cd11 ct11 oc12 kV12 dc12 pm12 cd12 ct12 oc13 kV13 dc13 pm13 cd13 ct13 oc14 kV14 dc14 pm14 cd14 ct14 oc15 kV15 dc15 pm15 cd15 ct15 oc16 kV16 dc16 pm16 cd16 ct16 oc17 kV17 dc17 pm17 cd17 ct17 oc18 kV18 dc18 pm18 cd18 ct18 oc19 kV19 dc19 pm19 cd19 ct19 oc20 kV20 dc20 pm20 cd20 ct20 oc21 kV21 dc21 pm21 cd21 ct21 : Value}
    (a0 : PySem.W.findIn K (.ref CDisk) "__init__" = some (some (.ref p0))) (i0 : PySem.W.isFn K (.ref p0) = true)
    (l0 : K.lookup p0 = some ⟨oc0, od0, .func (PySem.W.fnOf "__init__" "Disk.__init__" (defArgs s_Disk___init__) (defBody s_Disk___init__) (defScope s_Disk___init__) .none kV0 dc0 pm0 an0 cd0 ct0), sl0⟩) (c0 : PySem.W.codeIn K cd0 "Disk.__init__" = true) (k0 : PySem.W.keepIn K (.ref p0) = true)
    (a1 : PySem.W.findIn K (.ref CDisk) "size" = some (some (.ref p1))) (i1 : PySem.W.isFn K (.ref p1) = true)
    (l1 : K.lookup p1 = some ⟨oc1, od1, .func (PySem.W.fnOf "size" "Disk.size" (defArgs s_Disk_size) (defBody s_Disk_size) (defScope s_Disk_size) .none kV1 dc1 pm1 an1 cd1 ct1), sl1⟩) (c1 : PySem.W.codeIn K cd1 "Disk.size" = true) (k1 : PySem.W.keepIn K (.ref p1) = true)
    (a2 : PySem.W.findIn K (.ref CDisk) "read" = some (some (.ref p2))) (i2 : PySem.W.isFn K (.ref p2) = true)
    (l2 : K.lookup p2 = some ⟨oc2, od2, .func (PySem.W.fnOf "read" "Disk.read" (defArgs s_Disk_read) (defBody s_Disk_read) (defScope s_Disk_read) .none kV2 dc2 pm2 an2 cd2 ct2), sl2⟩) (c2 : PySem.W.codeIn K cd2 "Disk.read" = true) (k2 : PySem.W.keepIn K (.ref p2) = true)
    (a3 : PySem.W.findIn K (.ref CDisk) "write" = some (some (.ref p3))) (i3 : PySem.W.isFn K (.ref p3) = true)
    (l3 : K.lookup p3 = some ⟨oc3, od3, .func (PySem.W.fnOf "write" "Disk.write" (defArgs s_Disk_write) (defBody s_Disk_write) (defScope s_Disk_write) .none kV3 dc3 pm3 an3 cd3 ct3), sl3⟩) (c3 : PySem.W.codeIn K cd3 "Disk.write" = true) (k3 : PySem.W.keepIn K (.ref p3) = true)
    (a4 : PySem.W.findIn K (.ref CDisk) "flush" = some (some (.ref p4))) (i4 : PySem.W.isFn K (.ref p4) = true)
    (l4 : K.lookup p4 = some ⟨oc4, od4, .func (PySem.W.fnOf "flush" "Disk.flush" (defArgs s_Disk_flush) (defBody s_Disk_flush) (defScope s_Disk_flush) .none kV4 dc4 pm4 an4 cd4 ct4), sl4⟩) (c4 : PySem.W.codeIn K cd4 "Disk.flush" = true) (k4 : PySem.W.keepIn K (.ref p4) = true)
    (a5 : PySem.W.findIn K (.ref CDisk) "pending_count" = some (some (.ref p5))) (i5 : PySem.W.isFn K (.ref p5) = true)
    (l5 : K.lookup p5 = some ⟨oc5, od5, .func (PySem.W.fnOf "pending_count" "Disk.pending_count" (defArgs s_Disk_pending_count) (defBody s_Disk_pending_count) (defScope s_Disk_pending_count) .none kV5 dc5 pm5 an5 cd5 ct5), sl5⟩) (c5 : PySem.W.codeIn K cd5 "Disk.pending_count" = true) (k5 : PySem.W.keepIn K (.ref p5) = true)
    (a6 : PySem.W.findIn K (.ref CDisk) "cut_count" = some (some (.ref p6))) (i6 : PySem.W.isFn K (.ref p6) = true)
    (l6 : K.lookup p6 = some ⟨oc6, od6, .func (PySem.W.fnOf "cut_count" "Disk.cut_count" (defArgs s_Disk_cut_count) (defBody s_Disk_cut_count) (defScope s_Disk_cut_count) .none kV6 dc6 pm6 an6 cd6 ct6), sl6⟩) (c6 : PySem.W.codeIn K cd6 "Disk.cut_count" = true) (k6 : PySem.W.keepIn K (.ref p6) = true)
    (a7 : PySem.W.findIn K (.ref CDisk) "cut_power" = some (some (.ref p7))) (i7 : PySem.W.isFn K (.ref p7) = true)
    (l7 : K.lookup p7 = some ⟨oc7, od7, .func (PySem.W.fnOf "cut_power" "Disk.cut_power" (defArgs s_Disk_cut_power) (defBody s_Disk_cut_power) (defScope s_Disk_cut_power) .none kV7 dc7 pm7 an7 cd7 ct7), sl7⟩) (c7 : PySem.W.codeIn K cd7 "Disk.cut_power" = true) (k7 : PySem.W.keepIn K (.ref p7) = true)
    (a8 : PySem.W.findIn K (.ref CDisk) "schedule_cut" = some (some (.ref p8))) (i8 : PySem.W.isFn K (.ref p8) = true)
    (l8 : K.lookup p8 = some ⟨oc8, od8, .func (PySem.W.fnOf "schedule_cut" "Disk.schedule_cut" (defArgs s_Disk_schedule_cut) (defBody s_Disk_schedule_cut) (defScope s_Disk_schedule_cut) .none kV8 dc8 pm8 an8 cd8 ct8), sl8⟩) (c8 : PySem.W.codeIn K cd8 "Disk.schedule_cut" = true) (k8 : PySem.W.keepIn K (.ref p8) = true)
    (a9 : PySem.W.findIn K (.ref CDisk) "_check_at" = some (some (.ref p9))) (i9 : PySem.W.isFn K (.ref p9) = true)
    (l9 : K.lookup p9 = some ⟨oc9, od9, .func (PySem.W.fnOf "_check_at" "Disk._check_at" (defArgs s_Disk__check_at) (defBody s_Disk__check_at) (defScope s_Disk__check_at) .none kV9 dc9 pm9 an9 cd9 ct9), sl9⟩) (c9 : PySem.W.codeIn K cd9 "Disk._check_at" = true) (k9 : PySem.W.keepIn K (.ref p9) = true)
    (a10 : PySem.W.findIn K (.ref CDisk) "_count_down" = some (some (.ref p10))) (i10 : PySem.W.isFn K (.ref p10) = true)
    (l10 : K.lookup p10 = some ⟨oc10, od10, .func (PySem.W.fnOf "_count_down" "Disk._count_down" (defArgs s_Disk__count_down) (defBody s_Disk__count_down) (defScope s_Disk__count_down) .none kV10 dc10 pm10 an10 cd10 ct10), sl10⟩) (c10 : PySem.W.codeIn K cd10 "Disk._count_down" = true) (k10 : PySem.W.keepIn K (.ref p10) = true)
    (a11 : PySem.W.findIn K (.ref CDisk) "_cut" = some (some (.ref p11))) (i11 : PySem.W.isFn K (.ref p11) = true)
    (l11 : K.lookup p11 = some ⟨oc11, od11, .func (PySem.W.fnOf "_cut" "Disk._cut" (defArgs s_Disk__cut) (defBody s_Disk__cut) (defScope s_Disk__cut) .none kV11 dc11 pm11 an11 cd11 ct11), sl11⟩) (c11 : PySem.W.codeIn K cd11 "Disk._cut" = true) (k11 : PySem.W.keepIn K (.ref p11) = true)
    (a12 : PySem.W.findIn K (.ref CDisk) "_store" = some (some (.ref p12))) (i12 : PySem.W.isFn K (.ref p12) = true)
    (l12 : K.lookup p12 = some ⟨oc12, od12, .func (PySem.W.fnOf "_store" "Disk._store" (defArgs s_Disk__store) (defBody s_Disk__store) (defScope s_Disk__store) .none kV12 dc12 pm12 an12 cd12 ct12), sl12⟩) (c12 : PySem.W.codeIn K cd12 "Disk._store" = true) (k12 : PySem.W.keepIn K (.ref p12) = true)
    (a13 : PySem.W.nsIn K mainGlobals "_check_torn" = some (some (.ref p13)))
    (l13 : K.lookup p13 = some ⟨oc13, od13, .func (PySem.W.fnOf "_check_torn" "_check_torn" (defArgs s_check_torn) (defBody s_check_torn) (defScope s_check_torn) .none kV13 dc13 pm13 an13 cd13 ct13), sl13⟩) (c13 : PySem.W.codeIn K cd13 "_check_torn" = true) (k13 : PySem.W.keepIn K (.ref p13) = true)
    (a14 : PySem.W.nsIn K mainGlobals "_law_cell" = some (some (.ref p14)))
    (l14 : K.lookup p14 = some ⟨oc14, od14, .func (PySem.W.fnOf "_law_cell" "_law_cell" (defArgs s_law_cell) (defBody s_law_cell) (defScope s_law_cell) .none kV14 dc14 pm14 an14 cd14 ct14), sl14⟩) (c14 : PySem.W.codeIn K cd14 "_law_cell" = true) (k14 : PySem.W.keepIn K (.ref p14) = true)
    (a15 : PySem.W.nsIn K mainGlobals "_law_digits" = some (some (.ref p15)))
    (l15 : K.lookup p15 = some ⟨oc15, od15, .func (PySem.W.fnOf "_law_digits" "_law_digits" (defArgs s_law_digits) (defBody s_law_digits) (defScope s_law_digits) .none kV15 dc15 pm15 an15 cd15 ct15), sl15⟩) (c15 : PySem.W.codeIn K cd15 "_law_digits" = true) (k15 : PySem.W.keepIn K (.ref p15) = true)
    (a16 : PySem.W.nsIn K mainGlobals "_law_draw" = some (some (.ref p16)))
    (l16 : K.lookup p16 = some ⟨oc16, od16, .func (PySem.W.fnOf "_law_draw" "_law_draw" (defArgs s_law_draw) (defBody s_law_draw) (defScope s_law_draw) .none kV16 dc16 pm16 an16 cd16 ct16), sl16⟩) (c16 : PySem.W.codeIn K cd16 "_law_draw" = true) (k16 : PySem.W.keepIn K (.ref p16) = true)
    (a17 : PySem.W.nsIn K mainGlobals "_law_torn" = some (some (.ref p17)))
    (l17 : K.lookup p17 = some ⟨oc17, od17, .func (PySem.W.fnOf "_law_torn" "_law_torn" (defArgs s_law_torn) (defBody s_law_torn) (defScope s_law_torn) .none kV17 dc17 pm17 an17 cd17 ct17), sl17⟩) (c17 : PySem.W.codeIn K cd17 "_law_torn" = true) (k17 : PySem.W.keepIn K (.ref p17) = true)
    (a18 : PySem.W.nsIn K mainGlobals "_law_schedule" = some (some (.ref p18)))
    (l18 : K.lookup p18 = some ⟨oc18, od18, .func (PySem.W.fnOf "_law_schedule" "_law_schedule" (defArgs s_law_schedule) (defBody s_law_schedule) (defScope s_law_schedule) .none kV18 dc18 pm18 an18 cd18 ct18), sl18⟩) (c18 : PySem.W.codeIn K cd18 "_law_schedule" = true) (k18 : PySem.W.keepIn K (.ref p18) = true)
    (a19 : PySem.W.nsIn K mainGlobals "_law_do_raw" = some (some (.ref p19)))
    (l19 : K.lookup p19 = some ⟨oc19, od19, .func (PySem.W.fnOf "_law_do_raw" "_law_do_raw" (defArgs s_law_do_raw) (defBody s_law_do_raw) (defScope s_law_do_raw) .none kV19 dc19 pm19 an19 cd19 ct19), sl19⟩) (c19 : PySem.W.codeIn K cd19 "_law_do_raw" = true) (k19 : PySem.W.keepIn K (.ref p19) = true)
    (a20 : PySem.W.nsIn K mainGlobals "_law_do" = some (some (.ref p20)))
    (l20 : K.lookup p20 = some ⟨oc20, od20, .func (PySem.W.fnOf "_law_do" "_law_do" (defArgs s_law_do) (defBody s_law_do) (defScope s_law_do) .none kV20 dc20 pm20 an20 cd20 ct20), sl20⟩) (c20 : PySem.W.codeIn K cd20 "_law_do" = true) (k20 : PySem.W.keepIn K (.ref p20) = true)
    (a21 : PySem.W.nsIn K mainGlobals "law" = some (some (.ref p21)))
    (l21 : K.lookup p21 = some ⟨oc21, od21, .func (PySem.W.fnOf "law" "law" (defArgs s_law) (defBody s_law) (defScope s_law) .none kV21 dc21 pm21 an21 cd21 ct21), sl21⟩) (c21 : PySem.W.codeIn K cd21 "law" = true) (k21 : PySem.W.keepIn K (.ref p21) = true)
    (uDisk : PySem.W.nsIn K mainGlobals "Disk" = some (some (.ref CDisk))) (pgDisk : PySem.W.plainGet K CDisk Str.empty = true) (hdDisk : PySem.W.hasDictIn K CDisk = true) (poDisk : PySem.W.plainOver K CDisk = true) (saDisk : PySem.W.findIn K (.ref CDisk) "__setattr__" = some (some (.builtin "object.__setattr__"))) (mkDisk : PySem.W.makesIn K CDisk = true) (kcDisk : PySem.W.keepIn K (.ref CDisk) = true)
    (nDisk_blocks : PySem.W.findIn K (.ref CDisk) "_blocks" = some none)
    (nDisk_waiting : PySem.W.findIn K (.ref CDisk) "_waiting" = some none)
    (nDisk_cuts : PySem.W.findIn K (.ref CDisk) "_cuts" = some none)
    (nDisk_left : PySem.W.findIn K (.ref CDisk) "_left" = some none)
    (nDisk_torn : PySem.W.findIn K (.ref CDisk) "_torn" = some none)
    {nm qOutOfRange : Str} {NN : Addr} {bs bm : List Value} {sn : List Str} {sub : List Value} {ab : Bool} {col : Option Bool} {dd : Option Addr} {j0 j1 j2 j3 j5 : Option Value} {fI cc cda : Addr} {ocI : Value} {odI : Option Addr} {slI : Array (Option Value)} {kVI dcI pmI : Value} {anI : Option Addr} {ctI : Value} {cl : Value} {cld : Option Addr} {csl : Array (Option Value)} {ccl : Value} {cdd : Option Addr} {vs : Array Value} {ccs : Array (Option Value)} {file : Str} {tf : Tok}
    (xg : PySem.W.nsIn K mainGlobals "OutOfRange" = some (some (.ref COutOfRange))) (xi : PySem.W.findIn K (.ref COutOfRange) "__init__" = some (some (.ref fI)))
    (xl : K.lookup fI = some ⟨ocI, odI, .func (PySem.W.fnX "__init__" "OutOfRange.__init__" (defArgs s_O) (defBody s_O) (defScope s_O) [("__class__", cc)] .none kVI dcI pmI anI (.ref cda) ctI), slI⟩) (xcd : PySem.W.codeIn K (.ref cda) "OutOfRange.__init__" = true) (xce : K.lookup cc = some ⟨cl, cld, .cell (some (.ref COutOfRange)), csl⟩) (xfi : K.lookup cda = some ⟨ccl, cdd, .fields vs, ccs⟩)
    (xo : K.lookup COutOfRange = some (excClassObj nm qOutOfRange COutOfRange NN bs bm true sn sub ab col dd j0 j1 j2 j3 j5 "ValueError.__new__")) (xr : HandSPX.refsVE bm = true) (xsa : PySem.W.findIn K (.ref COutOfRange) "__setattr__" = some (some (.builtin "object.__setattr__"))) (xb : PySem.W.subIn K (.ref COutOfRange) (.type "BaseException") = some true) (xt : PySem.W.typeIn K (.ref COutOfRange) = some (.type "type")) (xk : PySem.W.keepIn K (.ref COutOfRange) = true) (xtf : PySem.W.typeIn K (.ref fI) = some (.type "function"))
    (xv : vs[2]? = some (.str file tf)) (xq : ((l.prog.main.file : Str) == file) = true) (xtop : (l.prog.main.scope.names.lookup ("super" : Str)).isSome = false) (xm : PySem.W.mroIn K COutOfRange (.ref COutOfRange) = some true) {ycl : Value} {ydd : Option Addr} {ycd : ClassData} {ysl : Array (Option Value)} (yo : K.lookup CKeepError = some ⟨ycl, ydd, .cls ycd, ysl⟩) (ym : bm = ycd.mro) (yf : PySem.W.findIn K (.ref CKeepError) "__init__" = some (some (.builtin vei))) (xve : PySem.W.subIn K (.ref COutOfRange) (.type "ValueError") = some true) (xan : PySem.W.nsIn K cStatics "thirdparty.any" = some none) (xsup : PySem.W.nsIn K mainGlobals "super" = some none)
    (xn : PySem.W.findIn K (.ref COutOfRange) "name" = some none) (xga : PySem.W.findIn K (.ref COutOfRange) "__getattribute__" = some (some (.builtin "BaseException.__getattribute__"))) (xgg : PySem.W.findIn K (.ref COutOfRange) "__getattr__" = some none) (xhd : PySem.W.hasDictIn K COutOfRange = true) (xcl : PySem.W.isClsIn K COutOfRange = true)
    (gPowerCut : PySem.W.nsIn K mainGlobals "PowerCut" = some (some (.ref CPowerCut))) (xPowerCut : PySem.W.excIn K CPowerCut [.type "ValueError", .type "Exception", .type "BaseException", .type "object"] "ValueError.__new__" = true) (kPowerCut : PySem.W.keepIn K (.ref CPowerCut) = true) (bPowerCut : PySem.W.subIn K (.ref CPowerCut) (.type "BaseException") = some true) (tPowerCut : PySem.W.typeIn K (.ref CPowerCut) = some (.type "type"))
    (gKeepError : PySem.W.nsIn K mainGlobals "KeepError" = some (some (.ref CKeepError))) (bKeepError : PySem.W.subIn K (.ref CKeepError) (.type "BaseException") = some true) (tKeepError : PySem.W.typeIn K (.ref CKeepError) = some (.type "type")) (clKeepError : PySem.W.isClsIn K CKeepError = true)
    (ePowerCutPowerCut : PySem.W.subIn K (.ref CPowerCut) (.ref CPowerCut) = some true)
    (clPowerCut : PySem.W.isClsIn K CPowerCut = true)
    (eOutOfRangePowerCut : PySem.W.subIn K (.ref COutOfRange) (.ref CPowerCut) = some false)
    (eOutOfRangeOutOfRange : PySem.W.subIn K (.ref COutOfRange) (.ref COutOfRange) = some true)
    (sPowerCutKeepError : PySem.W.subIn K (.ref CPowerCut) (.ref CKeepError) = some true) (dPowerCutKeepError : (Value.ref CPowerCut == Value.ref CKeepError) = false)
    (sPowerCutOutOfRange : PySem.W.subIn K (.ref CPowerCut) (.ref COutOfRange) = some false) (dPowerCutOutOfRange : (Value.ref CPowerCut == Value.ref COutOfRange) = false)
    (v1PowerCut : PySem.W.findIn K (.ref CPowerCut) "__getattribute__" = some (some (.builtin "BaseException.__getattribute__"))) (v2PowerCut : PySem.W.findIn K (.ref CPowerCut) "__getattr__" = some none) (v4PowerCut : PySem.W.hasDictIn K CPowerCut = true) (v5PowerCut : PySem.W.findIn K (.ref CPowerCut) "__class__" = some (some (.builtin "object.__class__"))) (v6PowerCut : PySem.W.specialIn K (.builtin "object.__class__") "__get__" = some (some (.builtin "getset_descriptor.__get__"))) (v7PowerCut : PySem.W.takesIn K (.builtin "object.__class__") = some true) (v8PowerCut : PySem.W.mroIn K CPowerCut (.type "object") = some true)
    (z_len : PySem.W.nsIn K mainGlobals "len" = some none)
    (z_int : PySem.W.nsIn K mainGlobals "int" = some none)
    (z_range : PySem.W.nsIn K mainGlobals "range" = some none)
    (z_list : PySem.W.nsIn K mainGlobals "list" = some none)
    (z_all : PySem.W.nsIn K mainGlobals "all" = some none)
    (z_zip : PySem.W.nsIn K mainGlobals "zip" = some none)
    (z_min : PySem.W.nsIn K mainGlobals "min" = some none)
    (z_max : PySem.W.nsIn K mainGlobals "max" = some none)
    (z_isinstance : PySem.W.nsIn K mainGlobals "isinstance" = some none)
    {tk0 : Tok} (q0 : PySem.W.nsIn K mainGlobals "BLOCK" = some (some (.int 32 tk0)))
    {tk1 : Tok} (q1 : PySem.W.nsIn K mainGlobals "BLOCKS_MOST" = some (some (.int 400 tk1)))
    {tk2 : Tok} (q2 : PySem.W.nsIn K mainGlobals "_BLOCKS_LEAST" = some (some (.int 8 tk2)))
    {tk3 : Tok} (q3 : PySem.W.nsIn K mainGlobals "_BYTE_MOST" = some (some (.int 255 tk3)))
    {tk4 : Tok} (q4 : PySem.W.nsIn K mainGlobals "_SCHEDULE_MOST" = some (some (.int 100000 tk4)))
    : ∃ fd : FuncData, (∀ (s : Shared) (v : Value), BindsTo s fd ⟨[v], []⟩ [("script", v)]) ∧ ∀ base : Heap, K.In base → base.Ns mainGlobals mg → FnG l.prog w K mg base 9 fa fd ["script"] (spLaw K) := by
  have e := hfa.symm.trans (PySem.W.mg_of X G a21)
  cases e
  have F0 := fun_mk (st := s_Disk___init__) l0 c0 k0
  have b0 := F0.binds (ps := ["self", "blocks"]) fun _ _ _ _ _ _ us hl => match us, hl with | [_, _], _ => rfl
  have F1 := fun_mk (st := s_Disk_size) l1 c1 k1
  have b1 := F1.binds (ps := ["self"]) fun _ _ _ _ _ _ us hl => match us, hl with | [_], _ => rfl
  have F2 := fun_mk (st := s_Disk_read) l2 c2 k2
  have b2 := F2.binds (ps := ["self", "at"]) fun _ _ _ _ _ _ us hl => match us, hl with | [_, _], _ => rfl
  have F3 := fun_mk (st := s_Disk_write) l3 c3 k3
  have b3 := F3.binds (ps := ["self", "at", "block"]) fun _ _ _ _ _ _ us hl => match us, hl with | [_, _, _], _ => rfl
  have F4 := fun_mk (st := s_Disk_flush) l4 c4 k4
  have b4 := F4.binds (ps := ["self"]) fun _ _ _ _ _ _ us hl => match us, hl with | [_], _ => rfl
  have F5 := fun_mk (st := s_Disk_pending_count) l5 c5 k5
  have b5 := F5.binds (ps := ["self"]) fun _ _ _ _ _ _ us hl => match us, hl with | [_], _ => rfl
  have F6 := fun_mk (st := s_Disk_cut_count) l6 c6 k6
  have b6 := F6.binds (ps := ["self"]) fun _ _ _ _ _ _ us hl => match us, hl with | [_], _ => rfl
  have F7 := fun_mk (st := s_Disk_cut_power) l7 c7 k7
  have b7 := F7.binds (ps := ["self", "torn"]) fun _ _ _ _ _ _ us hl => match us, hl with | [_, _], _ => rfl
  have F8 := fun_mk (st := s_Disk_schedule_cut) l8 c8 k8
  have b8 := F8.binds (ps := ["self", "many", "torn"]) fun _ _ _ _ _ _ us hl => match us, hl with | [_, _, _], _ => rfl
  have F9 := fun_mk (st := s_Disk__check_at) l9 c9 k9
  have b9 := F9.binds (ps := ["self", "at"]) fun _ _ _ _ _ _ us hl => match us, hl with | [_, _], _ => rfl
  have F10 := fun_mk (st := s_Disk__count_down) l10 c10 k10
  have b10 := F10.binds (ps := ["self"]) fun _ _ _ _ _ _ us hl => match us, hl with | [_], _ => rfl
  have F11 := fun_mk (st := s_Disk__cut) l11 c11 k11
  have b11 := F11.binds (ps := ["self", "torn"]) fun _ _ _ _ _ _ us hl => match us, hl with | [_, _], _ => rfl
  have F12 := fun_mk (st := s_Disk__store) l12 c12 k12
  have b12 := F12.binds (ps := ["self", "many"]) fun _ _ _ _ _ _ us hl => match us, hl with | [_, _], _ => rfl
  have F13 := fun_mk (st := s_check_torn) l13 c13 k13
  have b13 := F13.binds (ps := ["torn"]) fun _ _ _ _ _ _ us hl => match us, hl with | [_], _ => rfl
  have F14 := fun_mk (st := s_law_cell) l14 c14 k14
  have b14 := F14.binds (ps := ["script", "k"]) fun _ _ _ _ _ _ us hl => match us, hl with | [_, _], _ => rfl
  have F15 := fun_mk (st := s_law_digits) l15 c15 k15
  have b15 := F15.binds (ps := ["script", "first", "last"]) fun _ _ _ _ _ _ us hl => match us, hl with | [_, _, _], _ => rfl
  have F16 := fun_mk (st := s_law_draw) l16 c16 k16
  have b16 := F16.binds (ps := ["box", "many"]) fun _ _ _ _ _ _ us hl => match us, hl with | [_, _], _ => rfl
  have F17 := fun_mk (st := s_law_torn) l17 c17 k17
  have b17 := F17.binds (ps := ["box", "many"]) fun _ _ _ _ _ _ us hl => match us, hl with | [_, _], _ => rfl
  have F18 := fun_mk (st := s_law_schedule) l18 c18 k18
  have b18 := F18.binds (ps := ["disk", "count", "torn"]) fun _ _ _ _ _ _ us hl => match us, hl with | [_, _, _], _ => rfl
  have F19 := fun_mk (st := s_law_do_raw) l19 c19 k19
  have b19 := F19.binds (ps := ["disk", "at", "block"]) fun _ _ _ _ _ _ us hl => match us, hl with | [_, _, _], _ => rfl
  have F20 := fun_mk (st := s_law_do) l20 c20 k20
  have b20 := F20.binds (ps := ["disk", "at", "block"]) fun _ _ _ _ _ _ us hl => match us, hl with | [_, _, _], _ => rfl
  have F21 := fun_mk (st := s_law) l21 c21 k21
  have b21 := F21.binds (ps := ["script"]) fun _ _ _ _ _ _ us hl => match us, hl with | [_], _ => rfl
  have TO : OexC K COutOfRange := ⟨⟨nm, qOutOfRange, NN, bs, bm, sn, sub, ab, col, dd, j0, j1, j2, j3, j5, xo, xr⟩, xsa, xb, xt, xk⟩
  have SO : SupF l.prog K COutOfRange fI cc cda "OutOfRange.__init__" (defArgs s_O) (defBody s_O) (defScope s_O) _ := ⟨⟨ocI, odI, slI, kVI, dcI, pmI, anI, ctI, rfl, xl⟩, xcd, ⟨cl, cld, csl, xce⟩, ⟨ccl, cdd, vs, ccs, file, tf, xfi, xv, xq⟩, xtop, xm, sup_of xo yo ym yf, xve, xan⟩
  have bO : L2.Binds K (PySem.W.fnX "__init__" "OutOfRange.__init__" (defArgs s_O) (defBody s_O) (defScope s_O) [("__class__", cc)] .none kVI dcI pmI anI (.ref cda) ctI) ["self", "name"] [] := fun s us hs hl => match us, hl with | [_, _], _ => .of_eq rfl
  have XO : Out l.prog K mg "OutOfRange" "name" COutOfRange := ⟨PySem.W.mg_of X G xg, TO, ⟨fI, _, _, xi, xtf, fun w base => out_init SO TO xn (PySem.W.mg_none_of X G xsup), bO⟩, ⟨xga, xgg, xn, xb, xhd⟩⟩
  have A : All l.prog K mg CDisk COutOfRange CPowerCut CKeepError := ⟨⟨_, _, F0, ⟨mkDisk, a0, i0, kcDisk⟩, b0⟩, ⟨_, _, F1, ⟨a1, i1, k1⟩, b1⟩, ⟨_, _, F2, ⟨a2, i2, k2⟩, b2⟩, ⟨_, _, F3, ⟨a3, i3, k3⟩, b3⟩, ⟨_, _, F4, ⟨a4, i4, k4⟩, b4⟩, ⟨_, _, F5, ⟨a5, i5, k5⟩, b5⟩, ⟨_, _, F6, ⟨a6, i6, k6⟩, b6⟩, ⟨_, _, F7, ⟨a7, i7, k7⟩, b7⟩, ⟨_, _, F8, ⟨a8, i8, k8⟩, b8⟩, ⟨_, _, F9, ⟨a9, i9, k9⟩, b9⟩, ⟨_, _, F10, ⟨a10, i10, k10⟩, b10⟩, ⟨_, _, F11, ⟨a11, i11, k11⟩, b11⟩, ⟨_, _, F12, ⟨a12, i12, k12⟩, b12⟩, ⟨_, _, F13, PySem.W.mg_of X G a13, b13⟩, ⟨_, _, F14, PySem.W.mg_of X G a14, b14⟩, ⟨_, _, F15, PySem.W.mg_of X G a15, b15⟩, ⟨_, _, F16, PySem.W.mg_of X G a16, b16⟩, ⟨_, _, F17, PySem.W.mg_of X G a17, b17⟩, ⟨_, _, F18, PySem.W.mg_of X G a18, b18⟩, ⟨_, _, F19, PySem.W.mg_of X G a19, b19⟩, ⟨_, _, F20, PySem.W.mg_of X G a20, b20⟩, ⟨_, _, F21, PySem.W.mg_of X G a21, b21⟩, ⟨pgDisk, hdDisk, poDisk, saDisk⟩, PySem.W.mg_of X G uDisk, nDisk_blocks, nDisk_waiting, nDisk_cuts, nDisk_left, nDisk_torn, XO, ⟨PySem.W.mg_of X G gPowerCut, xPowerCut, kPowerCut, bPowerCut, tPowerCut⟩, PySem.W.mg_of X G gKeepError, exm_of bPowerCut clPowerCut tPowerCut ePowerCutPowerCut, exm_of bPowerCut clPowerCut tPowerCut eOutOfRangePowerCut, exm_of xb xcl xt eOutOfRangeOutOfRange, kit_of dPowerCutKeepError clKeepError tKeepError sPowerCutKeepError, kit_of dPowerCutOutOfRange xcl xt sPowerCutOutOfRange, ⟨v1PowerCut, v2PowerCut, bPowerCut, v4PowerCut, v5PowerCut, v6PowerCut, v7PowerCut, v8PowerCut⟩, PySem.W.mg_none_of X G z_len, PySem.W.mg_none_of X G z_int, PySem.W.mg_none_of X G z_range, PySem.W.mg_none_of X G z_list, PySem.W.mg_none_of X G z_all, PySem.W.mg_none_of X G z_zip, PySem.W.mg_none_of X G z_min, PySem.W.mg_none_of X G z_max, PySem.W.mg_none_of X G z_isinstance, ⟨_, PySem.W.mg_of X G q0, ⟨_, rfl⟩⟩, ⟨_, PySem.W.mg_of X G q1, ⟨_, rfl⟩⟩, ⟨_, PySem.W.mg_of X G q2, ⟨_, rfl⟩⟩, ⟨_, PySem.W.mg_of X G q3, ⟨_, rfl⟩⟩, ⟨_, PySem.W.mg_of X G q4, ⟨_, rfl⟩⟩⟩
  exact ⟨_, fun s v => .of_eq rfl, fun base _ _ => ok_law A F21⟩
end K41
open PySem PySem.W PyProof.Rows
set_option maxRecDepth 100000 in
set_option maxHeartbeats 0 in
theorem PySem.Challenge.cw_keptbywitness_k42_cut_on_schedule_holds : PySem.Challenge.rw_keptbywitness_k42_cut_on_schedule.Holds := by
  w_on; o_law; k_head; (case hw => w_witness2)
  k_fill
  refine Gd.walkG (l := PySem.Challenge.rw_keptbywitness_k42_cut_on_schedule) (n := 63) (k := 9) (x := "script") (sp := fun w => K41.spLaw _) rfl (by decide) rfl ⟨rfl, by decide, by decide⟩ (fun w h Y => PySem.W.kIn_of Y) ?F (fun w H a ns hl _ hS => ⟨a, ns, rfl, hS, hl, fun _ => rfl⟩)
  case F =>
    intro w mg fa h KX G hmg
    refine' K41.all_mk KX G hmg ?a0 ?i0 ?l0 ?c0 ?k0 ?a1 ?i1 ?l1 ?c1 ?k1 ?a2 ?i2 ?l2 ?c2 ?k2 ?a3 ?i3 ?l3 ?c3 ?k3 ?a4 ?i4 ?l4 ?c4 ?k4 ?a5 ?i5 ?l5 ?c5 ?k5 ?a6 ?i6 ?l6 ?c6 ?k6 ?a7 ?i7 ?l7 ?c7 ?k7 ?a8 ?i8 ?l8 ?c8 ?k8 ?a9 ?i9 ?l9 ?c9 ?k9 ?a10 ?i10 ?l10 ?c10 ?k10 ?a11 ?i11 ?l11 ?c11 ?k11 ?a12 ?i12 ?l12 ?c12 ?k12 ?a13 ?l13 ?c13 ?k13 ?a14 ?l14 ?c14 ?k14 ?a15 ?l15 ?c15 ?k15 ?a16 ?l16 ?c16 ?k16 ?a17 ?l17 ?c17 ?k17 ?a18 ?l18 ?c18 ?k18 ?a19 ?l19 ?c19 ?k19 ?a20 ?l20 ?c20 ?k20 ?a21 ?l21 ?c21 ?k21 ?uDisk ?pgDisk ?hdDisk ?poDisk ?saDisk ?mkDisk ?kcDisk ?nDisk_blocks ?nDisk_waiting ?nDisk_cuts ?nDisk_left ?nDisk_torn ?xg ?xi ?xl ?xcd ?xce ?xfi ?xo ?xr ?xsa ?xb ?xt ?xk ?xtf ?xv ?xq ?xtop ?xm ?yo ?ym ?yf ?xve ?xan ?xsup ?xn ?xga ?xgg ?xhd ?xcl ?gPowerCut ?xPowerCut ?kPowerCut ?bPowerCut ?tPowerCut ?gKeepError ?bKeepError ?tKeepError ?clKeepError ?ePowerCutPowerCut ?clPowerCut ?eOutOfRangePowerCut ?eOutOfRangeOutOfRange ?sPowerCutKeepError ?dPowerCutKeepError ?sPowerCutOutOfRange ?dPowerCutOutOfRange ?v1PowerCut ?v2PowerCut ?v4PowerCut ?v5PowerCut ?v6PowerCut ?v7PowerCut ?v8PowerCut ?z_len ?z_int ?z_range ?z_list ?z_all ?z_zip ?z_min ?z_max ?z_isinstance ?q0 ?q1 ?q2 ?q3 ?q4
    (case uDisk => k_is)
    (case gKeepError => k_is)
    (case a0 => k_is)
    (case i0 => k_is)
    (case l0 => k_is)
    (case c0 => k_is)
    (case k0 => k_is)
    (case a1 => k_is)
    (case i1 => k_is)
    (case l1 => k_is)
    (case c1 => k_is)
    (case k1 => k_is)
    (case a2 => k_is)
    (case i2 => k_is)
    (case l2 => k_is)
    (case c2 => k_is)
    (case k2 => k_is)
    (case a3 => k_is)
    (case i3 => k_is)
    (case l3 => k_is)
    (case c3 => k_is)
    (case k3 => k_is)
    (case a4 => k_is)
    (case i4 => k_is)
    (case l4 => k_is)
    (case c4 => k_is)
    (case k4 => k_is)
    (case a5 => k_is)
    (case i5 => k_is)
    (case l5 => k_is)
    (case c5 => k_is)
    (case k5 => k_is)
    (case a6 => k_is)
    (case i6 => k_is)
    (case l6 => k_is)
    (case c6 => k_is)
    (case k6 => k_is)
    (case a7 => k_is)
    (case i7 => k_is)
    (case l7 => k_is)
    (case c7 => k_is)
    (case k7 => k_is)
    (case a8 => k_is)
    (case i8 => k_is)
    (case l8 => k_is)
    (case c8 => k_is)
    (case k8 => k_is)
    (case a9 => k_is)
    (case i9 => k_is)
    (case l9 => k_is)
    (case c9 => k_is)
    (case k9 => k_is)
    (case a10 => k_is)
    (case i10 => k_is)
    (case l10 => k_is)
    (case c10 => k_is)
    (case k10 => k_is)
    (case a11 => k_is)
    (case i11 => k_is)
    (case l11 => k_is)
    (case c11 => k_is)
    (case k11 => k_is)
    (case a12 => k_is)
    (case i12 => k_is)
    (case l12 => k_is)
    (case c12 => k_is)
    (case k12 => k_is)
    (case a13 => k_is)
    (case l13 => k_is)
    (case c13 => k_is)
    (case k13 => k_is)
    (case a14 => k_is)
    (case l14 => k_is)
    (case c14 => k_is)
    (case k14 => k_is)
    (case a15 => k_is)
    (case l15 => k_is)
    (case c15 => k_is)
    (case k15 => k_is)
    (case a16 => k_is)
    (case l16 => k_is)
    (case c16 => k_is)
    (case k16 => k_is)
    (case a17 => k_is)
    (case l17 => k_is)
    (case c17 => k_is)
    (case k17 => k_is)
    (case a18 => k_is)
    (case l18 => k_is)
    (case c18 => k_is)
    (case k18 => k_is)
    (case a19 => k_is)
    (case l19 => k_is)
    (case c19 => k_is)
    (case k19 => k_is)
    (case a20 => k_is)
    (case l20 => k_is)
    (case c20 => k_is)
    (case k20 => k_is)
    (case a21 => k_is)
    (case l21 => k_is)
    (case c21 => k_is)
    (case k21 => k_is)
    (case pgDisk => k_is)
    (case hdDisk => k_is)
    (case poDisk => k_is)
    (case saDisk => k_is)
    (case mkDisk => k_is)
    (case kcDisk => k_is)
    (case nDisk_blocks => k_is)
    (case nDisk_waiting => k_is)
    (case nDisk_cuts => k_is)
    (case nDisk_left => k_is)
    (case nDisk_torn => k_is)
    (case xg => k_is)
    (case xi => k_is)
    (case xl => k_is)
    (case xcd => k_is)
    (case xce => k_is)
    (case xfi => k_is)
    (case xo => k_is)
    (case xr => first | rfl | decide +kernel | k_is)
    (case xsa => k_is)
    (case xb => k_is)
    (case xt => k_is)
    (case xk => k_is)
    (case xtf => k_is)
    (case xv => first | rfl | decide +kernel | k_is)
    (case xq => first | rfl | decide +kernel | k_is)
    (case xtop => first | rfl | decide +kernel | k_is)
    (case xm => k_is)
    (case yo => k_is)
    (case ym => first | rfl | decide +kernel | k_is)
    (case yf => k_is)
    (case xve => k_is)
    (case xan => k_is)
    (case xsup => k_is)
    (case xn => k_is)
    (case xga => k_is)
    (case xgg => k_is)
    (case xhd => k_is)
    (case xcl => k_is)
    (case gPowerCut => k_is)
    (case xPowerCut => k_exc)
    (case kPowerCut => k_is)
    (case bPowerCut => k_is)
    (case tPowerCut => k_is)
    (case bKeepError => k_is)
    (case tKeepError => k_is)
    (case clKeepError => k_is)
    (case ePowerCutPowerCut => first | rfl | k_is)
    (case clPowerCut => k_is)
    (case eOutOfRangePowerCut => first | rfl | k_is)
    (case eOutOfRangeOutOfRange => first | rfl | k_is)
    (case sPowerCutKeepError => first | rfl | k_is)
    (case dPowerCutKeepError => first | rfl | decide | k_is)
    (case sPowerCutOutOfRange => first | rfl | k_is)
    (case dPowerCutOutOfRange => first | rfl | decide | k_is)
    (case v1PowerCut => k_is)
    (case v2PowerCut => k_is)
    (case v4PowerCut => k_is)
    (case v5PowerCut => k_is)
    (case v6PowerCut => k_is)
    (case v7PowerCut => k_is)
    (case v8PowerCut => k_is)
    (case z_len => k_is)
    (case z_int => k_is)
    (case z_range => k_is)
    (case z_list => k_is)
    (case z_all => k_is)
    (case z_zip => k_is)
    (case z_min => k_is)
    (case z_max => k_is)
    (case z_isinstance => k_is)
    (case q0 => k_is)
    (case q1 => k_is)
    (case q2 => k_is)
    (case q3 => k_is)
    (case q4 => k_is)
